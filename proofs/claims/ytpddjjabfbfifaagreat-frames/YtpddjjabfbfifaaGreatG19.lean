import Derived.Test.YtpddjjabfbfifaaGreatG03
import Derived.Test.YtpddjjabfbfifaaGreatG13
namespace Go.Proofs.YtpddjjabfbfifaaGreat
open Go.RowKit Tryz
set_option maxRecDepth 100000
set_option maxHeartbeats 40000000
variable{z3:Int}{T I:List Tk}{y zb:Nat}{z6 y0:Nat->Bool}{H:List Sm}{L M:Nat->List ByteArray}{z5:Sm}{k:List ByteArray}{N:List Nat}{x z4:Db}{i:List UInt8}{S:ByteArray}(g:ByteArray)(v l:List Tk)(z0 n:List Sm)(z7:Int)(z1:List Nat)(f:ByteArray)(d:Nat)(zt:Bool)(o:List ByteArray)(w:ByteArray)(z2:Nat->Bool)(D:Tk)(a:Sm)(b:Nat)
def lH(nm d:ByteArray)(i:rT):Tk:=⟨i.text,i.rule,nm,aP d i.pos,bm d i.pos⟩
def Oj(nm d:ByteArray):Nat->Nat->List Tk
 | 0,_=>[]
 | f+1,k=>lH nm d (bC d k).1 :: (if aI (bC d k).1=true then Oj nm d f (bC d k).2 else [])
def mS(nm d:ByteArray)(k:Nat):List Tk:=Oj nm d (d.size-k+1) k
theorem MT(a k:Nat)(b:k<=w.size)(c:w.size-k+1<=a):Oj f w a k=mS f w k:=by
 unfold mS
 suffices h:∀a g k,k<=w.size->w.size-k+1<=a->w.size-k+1<=g->Oj f w a k=Oj f w g k from h _ _ _ b c (QR _)
 clear c b a k;intro a
 induction a with
 | zero=>intro g k _ h;omega
 | succ a e =>
  intro g k b c j
  cases g with
  | zero=>omega
  | succ g =>
   rw[Oj,Oj]
   split
   ·next h =>
    have d:=gq w k b;have i:=d.2.2 h;rw[e g _ d.2.1 (by omega) (by omega)]
   ·rfl
theorem lE(c:b<=w.size)(h:aI (bC w b).1=true):mS f w b=lH f w (bC w b).1 :: mS f w (bC w b).2:=by
 have a:=gq w b c;have d:=a.2.2 h
 conv=>lhs;unfold mS
 rw[Oj,QW h,MT f w _ _ a.2.1 (by omega)]
theorem j7(h:aI (bC w b).1=false):mS f w b=[lH f w (bC w b).1]:=by
 unfold mS;rw[Oj,QT (by simp[h])]
theorem Fa(h:b<w.size)(a:cO (aF w b)=true):bC w b=bC w (b+1):=by
 unfold bC;rw[GL w b h a]
theorem uV(h:b<w.size)(c:cO (aF w b)=true):mS f w b=mS f w (b+1):=by
 have e:=Fa w b h c
 cases a:aI (bC w b).1
 ·rw[j7 f w b a,j7 f w (b+1) (by rw[<-e];exact a),e]
 ·rw[lE f w b (by omega) a,lE f w (b+1) (by omega) (by rw[<-e];exact a),e]
theorem Ds(n:Nat):∀a,(∀j,a<=j->j<a+n->j<w.size/\cO (aF w j)=false/\fn (aF w j)=true)->cG w a=cG w (a+n):=by
 induction n with
 | zero=>intro a _;rfl
 | succ n c =>
  intro a h;have b:=h a (by omega) (by omega);rw[GU w a b.1 b.2.1 b.2.2,c (a+1) (fun j d e=>h j (by omega) (by omega))]
  congr 1;omega
theorem DJ(h:qH z3=false)(a:cO z3=false):fn z3=true:=by
 unfold qH at h;rw[a]at h;simpa using h
theorem CY(a:d<b)(l:b<=f.size)(e:∀j,d<=j->j<b->cO (aF f j)=false/\fn (aF f j)=true)(i:b<f.size->cO (aF f b)=true):bC f d=(⟨f.extract d b,0,false,d⟩,b):=by
 have c:=Ds f (b-d) d (fun j g k=>⟨by omega,e j g (by omega)⟩);rw[show d+(b-d)=b by omega]at c;refine ze f d d b (tw f d (fun h=>?_)).symm c.symm (fun h=>?_) a
 ·rw[(e d (QR _) a).1]at h;simp at h
 ·rw[i h.1]at h;simp at h
theorem og(i:Nat):∀j,di w i<=j->j<i->cO (aF w j)=false:=by
 induction i with
 | zero=>intro j _ h;omega
 | succ i c =>
  intro j a d;rw[di]at a
  split at a
  ·omega
  ·next b =>
   by_cases e:j=i
   ·rw[e];simpa using b
   ·exact c j a (by omega)
theorem xx(i:Nat)(l:i<=w.size)(g:∀j,j<i->qH (aF w j)=false):mS f w 0=jd f w i++mS f w (di w i):=by
 induction i with
 | zero=>rfl
 | succ i b =>
  have b:=b (by omega) (fun j m=>g j (by omega));rw[jd,di]
  cases a:cO (aF w i)
  ·rw[QT (by simp),QT (by simp)];exact b
  ·rw[QW rfl,QW rfl]
   have k:=oh w i;unfold je
   split
   ·next e =>
    rw[b,e,uV f w i (by omega) a]
   ·next e =>
    have h:=CY w (di w i) i (by omega) (by omega) (fun j c d=>⟨og w i j c d,DJ (g j (by omega)) (og w i j c d)⟩) (fun _=>a);rw[b,lE f w (di w i) (by omega) (by rw[h];rfl),h,<-uV f w i (by omega) a];simp[lH,me]
theorem FM:ij f w=mS f w 0:=by
 unfold ij
 cases d:jF w with
 | some i =>
  unfold jF at d;rw[Sj]at d;obtain⟨c,b,r⟩:=d;have b:=Ra.1 b;have g:∀j,j<i->qH (aF w j)=false:=fun j o=>by simpa using r j o
  have p:=oh w i;have k:∀j,di w i<=j->j<di w i+(i-di w i)->j<w.size/\cO (aF w j)=false/\fn (aF w j)=true:=fun j c b=>⟨by omega,og w i j c (by omega),DJ (g j (by omega)) (og w i j c (by omega))⟩
  have m:fn (aF w i)=false/\cO (aF w i)=false:=by
   unfold qH at c;simpa using c
  have q:=Ds w (i-di w i) (di w i) k;rw[show di w i+(i-di w i)=i by omega]at q
  have n:di w i=skip w (di w i):=(tw w _ (fun h=>by
   by_cases e:di w i=i
   ·rw[e,m.2]at h;simp at h
   ·rw[(k (di w i) (QR _) (by omega)).2.1]at h;simp at h)).symm
  have l:=CW w (di w i) (di w i) i n q.symm b m.2 m.1;simp only;rw[xx f w i (by omega) g,j7 f w (di w i) (by rw[l];rfl),l];simp[lH,me]
 | none =>
  have g:∀j,j<w.size->qH (aF w j)=false:=fun j o=>by
   unfold jF at d;rw[Sk]at d;simpa using d j (Ra.2 o)
  have p:=oh w w.size;have a:bC w w.size=(⟨⟨#[]⟩,0,true,w.size⟩,w.size):=CX w w.size w.size w.size (tw w _ (fun h=>by omega)).symm rfl (fun h=>by omega) (QR _);simp only;rw[xx f w w.size (QR _) g];unfold je
  split
  ·next e =>
   rw[e,j7 f w w.size (by rw[a];rfl),a];simp[lH,me]
  ·next e =>
   have l:=CY w (di w w.size) w.size (by omega) (QR _) (fun j c b=>⟨og w _ j c b,DJ (g j b) (og w _ j c b)⟩) (fun h=>by omega);rw[lE f w (di w w.size) p (by rw[l];rfl),l,j7 f w w.size (by rw[a];rfl),a];simp[lH,me]
def Od(nm d:ByteArray):Nat->Nat->List Tk
 | 0,_=>[]
 | f+1,k=>lH nm d (ay d k).1 :: (if aI (ay d k).1=true then Od nm d f (ay d k).2 else [])
def lZ(nm d:ByteArray)(k:Nat):List Tk:=Od nm d (d.size-k+1) k
theorem MA(a k:Nat)(b:k<=w.size)(c:w.size-k+1<=a):Od f w a k=lZ f w k:=by
 unfold lZ
 suffices h:∀a g k,k<=w.size->w.size-k+1<=a->w.size-k+1<=g->Od f w a k=Od f w g k from h _ _ _ b c (QR _)
 clear c b a k;intro a
 induction a with
 | zero=>intro g k _ h;omega
 | succ a e =>
  intro g k b c j
  cases g with
  | zero=>omega
  | succ g =>
   rw[Od,Od]
   split
   ·next h =>
    have d:=fG w k b;have i:=d.2.2 h;rw[e g _ d.2.1 (by omega) (by omega)]
   ·rfl
theorem j6(c:b<=w.size)(h:aI (ay w b).1=true):lZ f w b=lH f w (ay w b).1 :: lZ f w (ay w b).2:=by
 have a:=fG w b c;have d:=a.2.2 h
 conv=>lhs;unfold lZ
 rw[Od,QW h,MA f w _ _ a.2.1 (by omega)]
theorem j5(h:aI (ay w b).1=false):lZ f w b=[lH f w (ay w b).1]:=by
 unfold lZ;rw[Od,QT (by simp[h])]
theorem Fq(c:d<=f.size)(e:b<=f.size)(h:ay f d=ay f b):lZ g f d=lZ g f b:=by
 cases a:aI (ay f d).1
 ·rw[j5 g f d a,j5 g f b (by rw[<-h];exact a),h]
 ·rw[j6 g f d c a,j6 g f b e (by rw[<-h];exact a),h]
theorem GQ(c:UInt8):ii w ⟨#[36,c]⟩=(List.range w.size).any (fun i=>decide (1<=i)&&(aF w (i-1)==36)&&(aF w i==(c.toNat:Int))):=by
 have b:(⟨#[36,c]⟩:ByteArray).size=2:=rfl
 have d:∀i,i+2<=w.size->(rO w ⟨#[36,c]⟩ i=((aF w i==36)&&(aF w (i+1)==(c.toNat:Int)))):=fun i a=>by
  have e:(w.extract i (i+2)).toList=[w[i]'(by omega),w[i+1]'(by omega)]:=by
   apply UN
   ·rw[RZ];simp;omega
   ·intro n m f
    simp only[List.length_cons,List.length_nil]at f;have k:n=0∨n=1:=by omega
    simp only[ByteArray.toList_eq,ByteArray.data_extract,Array.getElem_toList,Array.getElem_extract]
    rcases k with rfl | rfl <;> rfl
  unfold rO;rw[b,e,bP w i (by omega),bP w (i+1) (by omega)];have l:(⟨#[36,c]⟩:ByteArray).toList=[36,c]:=by rw[RZ]
  rw[l]
  have j:∀x:UInt8,((x.toNat:Int)==36)=(x==36):=fun x=>by
   rw[SA];simp only[beq_iff_eq]
   constructor
   ·intro h;exact UInt8.toNat_inj.1 (by rw[show x.toNat=36 by omega];rfl)
   ·rintro rfl;rfl
  have g:∀x:UInt8,((x.toNat:Int)==(c.toNat:Int))=(x==c):=fun x=>by
   rw[SA];simp only[beq_iff_eq]
   constructor
   ·intro h;exact UInt8.toNat_inj.1 (by omega)
   ·rintro rfl;rfl
  rw[j,g];simp[Bool.beq_eq_decide_eq,Bool.decide_and]
 unfold ii;rw[b,SA,RC,RC]
 constructor
 ·rintro ⟨i,a,h⟩
  have a:=Ra.1 a;rw[Rg,Sx]at h;rw[d i h.1]at h;exact⟨i+1,Ra.2 (by omega),by rw[SD,Rg,Rg,Sx];rw[Rg]at h;exact⟨⟨by omega,h.2.1⟩,h.2.2⟩⟩
 ·rintro ⟨i,a,h⟩
  have a:=Ra.1 a;rw[Rg,Rg,Sx]at h;refine⟨i-1,Ra.2 (by omega),?_⟩;rw[Rg,Sx,d (i-1) (by omega),Rg,show i-1+1=i by omega];exact⟨by omega,h.1.2,h.2⟩
theorem uB:kE w=(ii w ⟨#[36,40]⟩||ii w ⟨#[36,41]⟩):=by
 rw[GQ,GQ,SA,RB];unfold kE;simp only[List.any_eq_true,Bool.and_eq_true,Bool.or_eq_true]
 constructor
 ·rintro ⟨i,c,b,a | a⟩
  ·exact Q1 ⟨i,c,b,a⟩
  ·exact QV ⟨i,c,b,a⟩
 ·rintro (⟨i,c,b,a⟩ | ⟨i,c,b,a⟩)
  ·exact⟨i,c,b,Q1 a⟩
  ·exact⟨i,c,b,QV a⟩
theorem ia:ii w ⟨#[36]⟩=dA w:=by
 have a:(⟨#[36]⟩:ByteArray).size=1:=rfl
 have b:∀i,i+1<=w.size->(rO w ⟨#[36]⟩ i=(aF w i==36)):=fun i c=>by
  have e:(w.extract i (i+1)).toList=[w[i]'(by omega)]:=by
   apply UN
   ·rw[RZ];simp;omega
   ·intro n j d
    simp only[List.length_cons,List.length_nil]at d;have f:n=0:=by omega
    simp only[ByteArray.toList_eq,ByteArray.data_extract,Array.getElem_toList,Array.getElem_extract];subst f;rfl
  unfold rO;rw[a,e,bP w i (by omega)];have g:(⟨#[36]⟩:ByteArray).toList=[36]:=by rw[RZ]
  rw[g,SA];simp only[beq_iff_eq,List.cons.injEq,and_true]
  constructor
  ·intro h;rw[h];rfl
  ·intro h;exact UInt8.toNat_inj.1 (by rw[show(w[i]'(by omega)).toNat=36 by omega];rfl)
 unfold ii dA;rw[a,SA,RC,RC]
 constructor
 ·rintro ⟨i,c,h⟩
  rw[Rg,Sx]at h;rw[b i h.1]at h;exact⟨i,Ra.2 (by omega),h.2⟩
 ·rintro ⟨i,c,h⟩
  have c:=Ra.1 c;exact⟨i,Ra.2 (by omega),by rw[Rg,Sx,b i (by omega)];exact⟨by omega,h⟩⟩
theorem tu(c:b<=w.size):(aI (bC w b).1=true->((bC w b).1.text.toList == [])=false/\(bC w b).1.rule=0)/\(aI (bC w b).1=false->(bC w b).1.text=⟨#[]⟩/\((bC w b).1.fin=true->(bC w b).1.rule=0)):=by
 have a:=AB w b c;have j:=rQ w (skip w b) a.2;unfold bC;simp only
 split
 ·exact⟨fun h=>by simp[aI]at h,fun _=>⟨rfl,fun h=>by cases h⟩⟩
 ·split
  ·exact⟨fun h=>by simp[aI]at h,fun _=>⟨rfl,fun _=>rfl⟩⟩
  ·next f g =>
   refine⟨fun _=>⟨?_,rfl⟩,fun h=>by simp[aI]at h⟩
   have d:(w.extract (skip w b) (cG w (skip w b))).size=cG w (skip w b)-skip w b:=by
    rw[Tw];omega
   cases e:((w.extract (skip w b) (cG w (skip w b))).toList == [])
   ·rfl
   ·have e:(w.extract (skip w b) (cG w (skip w b))).toList=[]:=by simpa using e
    have:=congrArg List.length e;rw[RZ]at this;have i:cG w (skip w b)-skip w b=0∨w.size-skip w b=0:=by simpa using this
    omega
theorem KE(j:Nat):∀k,k<=w.size->w.size-k+1<=j ->
  bQ true (mS f w k)=(if aI (aW w k).1=true then bQ false (mS f w (aW w k).2) else [lH f w (aW w k).1]):=by
 induction j with
 | zero=>intro k _ h;omega
 | succ j o =>
  intro k g r;have l:=gq w k g;obtain⟨m,n⟩:=tu w k g
  cases a:aI (bC w k).1
  ·obtain⟨d,e⟩:=n a
   rw[j7 f w k a]
   cases b:(bC w k).1.fin
   ·have q:((bC w k).1.rule==0)=false:=by
     unfold aI at a;rw[b]at a;simpa using a
    rw[uE w k a b,a,QT (by simp),bQ,QW (by exact q)];rw[bQ]
   ·rw[sx w k a b,QT (by simp[aI]),bQ,QT (by simp[lH,e b]),QT (by simp[lH,Dw,d]),QW (by simp[lH,Dw,d]),bQ]
    rfl
  ·obtain⟨d,e⟩:=m a
   have p:=l.2.2 a;rw[lE f w k g a]
   cases c:((bC w k).1.text.toList == [36,41])
   ·cases i:kE (bC w k).1.text
    ·rw[vS w k g a c i,bQ,QT (by simp[lH,e]),QT (by simp only[lH,Dw];rw[c];simp),QT (by simp only[lH,Dw];rw[d];simp),QT (by rw[<-uB];simp only[lH];rw[i];simp)]
     exact o _ l.2.1 (by omega)
    ·rw[sw w k a c i,QT (by simp[aI]),bQ,QT (by simp[lH,e]),QT (by simp only[lH,Dw];rw[c];simp),QT (by simp only[lH,Dw];rw[d];simp),QW (by rw[<-uB];exact i)]
     rfl
   ·rw[qN w k a c,QW a,bQ,QT (by simp[lH,e]),QW (by simp only[lH,Dw];exact c)]
theorem G6(j:Nat):∀k,k<=w.size->w.size-k+1<=j->bQ false (mS f w k)=lZ f w k:=by
 induction j with
 | zero=>intro k _ h;omega
 | succ j l =>
  intro k d r;have i:=gq w k d;obtain⟨p,n⟩:=tu w k d
  cases b:aI (bC w k).1
  ·obtain⟨m,q⟩:=n b
   have a:=rG w k (Q1 b);rw[j7 f w k b,j5 f w k (by rw[a];exact b),a,bQ,QT (by simp[lH,Dw,m]),bQ]
  ·have o:=i.2.2 b
   rw[lE f w k d b]
   cases g:((bC w k).1.text.toList == [36,40])
   ·have a:=rG w k (QV g)
    rw[j6 f w k d (by rw[a];exact b),a,bQ,QT (by simp only[lH,Dw];rw[g];simp),l _ i.2.1 (by omega)]
   ·have e:=i9 w (bC w k).2 i.2.1
    rw[bQ,QW (by simp only[lH,Dw];exact g),KE f w _ _ i.2.1 (QR _)]
    cases c:aI (aW w (bC w k).2).1
    ·have a:=uM w k b g c
     rw[QT (by simp),j5 f w k (by rw[a];exact c),a]
    ·have a:=Gx w k d b g c
     rw[QW rfl,l _ e.2 (by omega)];exact(Fq f w k _ d e.2 a).symm
theorem zn(a:Fs)(k:Nat):qV a k=lZ (aE a k) (ak a k) 0:=by
 unfold qV;rw[FM];exact G6 _ _ _ 0 (Ro _) (QR _)
theorem fI(h:b<v.length):tS (v++l) b=tS v b:=by
 unfold tS;rw[QQ,QQ,Q7 h]
theorem oV:tS (l++[D]) l.length=D.s:=by
 unfold tS;rw[QQ,Q5 (QR _),RY];rfl
theorem Ae(h:b+1<v.length):ew (v++l) b=ew v b:=by
 unfold ew;rw[fI v l b (by omega),fI v l (b+1) h,Q0];have a:decide (v.length+l.length<=b+1)=false:=by simp;omega
 have c:decide (v.length<=b+1)=false:=by simp;omega
 rw[a,c]
theorem IA(f:d<=b)(c:b<v.length)(a:bS (tS v b)=true):ew (v++l) d=ew v d:=by
 by_cases e:d=b
 ·subst e
  unfold ew;rw[fI v l d c,(kM a).1];simp
 ·exact Ae v l d (by omega)
theorem wH(i:Nat)(c:i<=v.length):eO (v++l) i=eO v i:=by
 induction i with
 | zero=>rfl
 | succ i a =>
  rw[eO,eO,a (by omega),fI v l i (by omega)]
  cases b:bS (tS v i)
  ·rfl
  ·rw[IA v l _ i (LK v i) (by omega) b]
theorem EH(k:Nat):∃M,(eO l (b+k)).1=(eO l b).1++M/\∀m∈M,b<m.z:=by
 induction k with
 | zero=>exact⟨[],by simp,by simp⟩
 | succ k e =>
  obtain⟨M,a,c⟩:=e;rw[show b+(k+1)=(b+k)+1 by omega,eO]
  split
  ·refine⟨M++[⟨(eO l (b+k)).2,b+k+1,(ew l (eO l (b+k)).2).2,(ew l (eO l (b+k)).2).1⟩],by simp only[a,List.append_assoc],fun m d=>?_⟩
   rcases Rr.1 d with h | h
   ·exact c m h
   ·rw[Q9.1 h];show b<b+k+1;omega
  ·exact⟨M,a,c⟩
theorem zl:∃M,aj (v++l)=aj v++M/\∀m∈M,v.length<m.z:=by
 obtain⟨M,a,b⟩:=EH (v++l) v.length l.length;refine⟨M,?_,b⟩;unfold aj;rw[Q0,a,wH v l _ (QR _)]
def fA(T:List Tk):Nat:=(eO T T.length).2
theorem EL:fA l=kz (aj l) (aj l).length:=(fw l).fr
theorem oR:aj (l++[D])=(if bS D.s=true then aj l++[⟨fA l,l.length+1,(ew (l++[D]) (fA l)).2,(ew (l++[D]) (fA l)).1⟩] else aj l)/\fA (l++[D])=(if bS D.s=true then l.length+1 else fA l):=by
 unfold aj fA;rw[Q0,Rp,Rs,eO,wH l [D] l.length (QR _),oV]
 split <;> exact⟨rfl,rfl⟩
theorem jL(h:b<z0.length):au (z0++n) b=au z0 b:=by
 unfold au;rw[QQ,QQ,Q7 h]
theorem Bf(h:b<=z0.length):kz (z0++n) b=kz z0 b:=by
 unfold kz
 split
 ·rw[jL z0 n (b-1) (by omega)]
 ·rfl
theorem Ga(S M:List Sm)(h:∀m∈M,b<m.z):nt b (S++M)=nt b S:=by
 induction S with
 | nil =>
  cases M with
  | nil=>rfl
  | cons m M =>
   have:=h m (by simp)
   show(if m.z<=b then nt b M+1 else 0)=0
   rw[QT (by omega)]
 | cons s S a=>rw[Ti,nt,nt,a]
theorem rj(h:b<=z0.length):aV (z0++n) d b=aV z0 d b:=by
 unfold aV
 by_cases a:d<=z0.length
 ·rw[Sg a,So (by rw[RT];omega)]
 ·rw[show b-d=0 by omega];simp
theorem lp(h:b<=z0.length):bb (z0++n) b=bb z0 b:=by
 unfold bb;rw[So h]
theorem yk(L M:List Tk)(h:∃u∈L,mM u.s=true):ke (L++M)=ke L:=by
 induction L with
 | nil=>obtain⟨u,b,-⟩:=h;cases b
 | cons a L d =>
  rw[Ti,ke,ke]
  split
  ·rfl
  ·next e =>
   rw[d];obtain⟨u,b,c⟩:=h
   rcases Rj.1 b with rfl | b
   ·exact absurd c e
   ·exact⟨u,b,c⟩
theorem JX(c:cU T y):∃u∈T.drop y,mM u.s=true:=by
 obtain⟨e,d,b,a⟩:=c;refine⟨T[e],?_,?_⟩
 ·rw[List.mem_iff_getElem?]
  exact⟨e-y,by rw[SV,show y+(e-y)=e by omega,QP b]⟩
 ·unfold tS at a
  rw[QQ,QP b]at a;exact a
theorem sg(a:cU v b):bu (v++l) b=bu v b:=by
 have c:b<=v.length:=by obtain⟨e,d,f,-⟩:=a;omega
 unfold bu;rw[Sg c,yk _ _ (JX a)]
theorem JW(f:cU v b):cU (v++l) b:=by
 obtain⟨e,a,c,d⟩:=f;exact⟨e,a,by rw[Q0];omega,by rw[fI v l e c];exact d⟩
theorem lm(h:∀j,j<y->z6 j=y0 j):(List.range y).any z6=(List.range y).any y0:=by
 rw[SA,RC,RC]
 constructor
 ·rintro ⟨j,a,b⟩;exact⟨j,a,by rw[<-h j (Ra.1 a)];exact b⟩
 ·rintro ⟨j,a,b⟩;exact⟨j,a,by rw[h j (Ra.1 a)];exact b⟩
theorem wb{l:List Nat}{q:Nat->Bool}(h:∀j∈l,z6 j=q j):l.find? z6=l.find? q:=by
 induction l with
 | nil=>rfl
 | cons a l b =>
  rw[List.find?_cons,List.find?_cons,h a (by simp),b (fun j c=>h j (by simp[c]))]
section
variable {T U:List Tk} {S M:List Sm} {n:Nat}
theorem vT(a:n<=S.length)(b:∀j,j<n->((au S j).k.toList==g.toList)=true->cU T (au S j).h):jq (T++U) (S++M) g f n zt=jq T S g f n zt:=by
 unfold jq;refine lm (fun j c=>?_);unfold pG;rw[jL S M j (by omega),rj S M j n a]
 cases h:((au S j).k.toList==g.toList)
 ·rfl
 ·rw[sg T U _ (b j c h)]
theorem tN(a:il T S n):eF (T++U) (S++M) w n=eF T S w n:=vT _ w _ a.m (by rw[nR.1];exact a.c)
theorem GR(a:il T S n):kZ (T++U) (S++M) w n=kZ T S w n:=vT _ w _ a.m (by rw[nR.2];exact a.v)
theorem yK(h:a.a<T.length):bG (T++U) a=bG T a:=by
 unfold bG;rw[fI T U a.a h]
theorem sP(c:il T S n):bE (T++U) (S++M) w n=bE T S w n:=by
 unfold bE
 rw[wb (q:=qL T S w) (fun j b=>by
  have b:=Ra.1 b;have:=c.m;unfold qL;rw[jL S M j (by omega),yK _ (c.a j b)])]
theorem zm(a:il T S n):jC (T++U) (S++M) w n=jC T S w n:=by
 unfold jC;rw[sP w a,tN w a,vT _ w _ a.m (by rw[nR.2];exact a.v)]
theorem Il(b:il T S n)(c:l8 T S n):gg (T++U) (S++M) w n=gg T S w n:=by
 unfold gg
 rw[wb (q:=tV T S w n) (fun j a=>by
  have a:=Ra.1 a;have:=b.m;unfold tV;rw[jL S M j (by omega),rj S M j n b.m]
  cases h:((au S j).k.toList == [36,102])
  ·rfl
  ·rw[fI T U _ (c j a h)])]
theorem IV(a:il T S n):jW (T++U) (S++M) f n zt o=jW T S f n zt o:=by
 unfold jW;rw[zm f a,sP f a,tN f a,GR f a]
theorem Fo(a:il T S n)(b:l8 T S n):jm (T++U) (S++M) g f n o=jm T S g f n o:=by
 unfold jm;rw[tN f a,GR f a,Il f a b]
theorem CR(a:il T S n)(b:l8 T S n):lW (T++U) (S++M) g f n o=lW T S g f n o:=by
 unfold lW;rw[IV f _ o a,Fo g f o a b]
theorem yB(a:il T S n):dw (T++U) (S++M) w n=dw T S w n:=by
 unfold dw;rw[lp S M n a.m,zm w a]
end
theorem F0(a:d<=b)(c:b<=v.length):fa (v++l) d b=fa v d b:=by
 unfold fa;rw[Sg (by omega),So (by rw[RT];omega)]
theorem vP(d:v.length<=100000)(i:Nat)(c:i<v.length)(a:∀j,j<i->bh v (aj v) j=0):bh (v++l) (aj (v++l)) i=bh v (aj v) i:=by
 obtain⟨b,n⟩:=Ot v d i c a;obtain⟨M,g,h⟩:=zl v l;rw[g];generalize aj v=S at *;have k:i8 (S++M) i=i8 S i:=Ga i S M (fun m f=>by have:=h m f;omega);have o:=KM S i;unfold bh;rw[k,Bf S M _ b.m,fI v l i c]
 by_cases e:i=kz S (i8 S i)
 ·rw[QW e,QW e,yB _ b]
 ·rw[QT e,QT e,Ae v l _ (by omega)]
  split
  ·rfl
  ·next p =>
   rw[CR _ _ _ b n,F0 v l _ i (by omega) (by omega)]
theorem rm(b:v.length<=100000)(h:∀j,j<v.length->bh v (aj v) j=0):∀j,j<v.length->bh (v++l) (aj (v++l)) j=0:=fun j a=>by
 rw[vP v l b j a (fun q c=>h q (by omega))];exact h j a
def uH(o:Int)(L:List Sm):Int:=L.foldl (fun o s=>aO o s.k) o
theorem yn(c:Int)(k:ByteArray):aO (z7+c) k=aO z7 k+c:=by
 unfold aO
 split <;> split <;> omega
theorem BJ(L:List Sm):∀o c,uH (o+c) L=uH o L+c:=by
 induction L with
 | nil=>intro o c;rfl
 | cons s L a =>
  intro o c
  show uH (aO (o+c) s.k) L=uH (aO o s.k) L+c
  rw[yn,a]
theorem GX(L:List Sm)(s:Sm):∀o,qE o (L++[s])=(qE o L&&decide (0<=uH o (L++[s]))):=by
 induction L with
 | nil =>
  intro o
  show(if aO o s.k<0 then false else qE (aO o s.k) [])=(qE o []&&decide (0<=aO o s.k))
  simp only[qE]
  by_cases h:aO o s.k<0
  ·rw[QW h];simp;omega
  ·rw[QT h];simp;omega
 | cons a L b =>
  intro o;rw[Ti,qE,qE]
  by_cases h:aO o a.k<0
  ·rw[QW h,QW h];rfl
  ·rw[QT h,QT h,b];rfl
theorem Ed(c:d<=b):uH 0 ((n.drop d).take (b-d))=bb n b-bb n d:=by
 have e:n.take b=n.take d++(n.drop d).take (b-d):=by
  rw[show b=d+(b-d) by omega,List.take_add];simp
 have a:bb n b=uH (bb n d) ((n.drop d).take (b-d)):=by
  unfold bb uH;rw[e,Sw]
 have:=BJ ((n.drop d).take (b-d)) 0 (bb n d);rw[Int.zero_add]at this;omega
theorem rW(c:d<=b)(f:b<n.length):aV n d (b+1)=(aV n d b&&decide (bb n d<=bb n (b+1))):=by
 have e:(n.drop d).take (b+1-d)=(n.drop d).take (b-d)++[n[b]]:=by
  rw[show b+1-d=(b-d)+1 by omega,RG (by rw[RT];omega),TI]
  congr 3;omega
 have a:=Ed n d (b+1) (by omega);unfold aV;rw[e]at a ⊢;rw[GX,a]
 congr 1
 rw[decide_eq_decide];omega
theorem A9:aV n b b=true:=by
 unfold aV;rw[RY,Tq,qE]
theorem DE(a:Nat)(j:b<=a)(i:a<=n.length)(h:aV n b a=true):∀m,b<=m->m<=a->bb n b<=bb n m:=by
 induction a with
 | zero =>
  intro m c d;have e:m=b:=by omega
  rw[e];exact TJ _
 | succ a g =>
  intro m c d
  by_cases e:b=a+1
  ·have e:m=b:=by omega
   rw[e];exact TJ _
  ·rw[rW n b a (by omega) (by omega),Rg,Sx]at h
   by_cases f:m=a+1
   ·rw[f];exact h.2
   ·exact g (by omega) (by omega) h.1 m c (by omega)
def j8(S:List Sm)(n:Nat):List Nat:=(List.range n).filter (fun j=>aV S j n)
theorem io(h:zb∈j8 H y):zb<y:=Ra.1 (RH.1 h).1
theorem DD(e:b<=n.length):(j8 n b).Pairwise (fun a c=>bb n a<=bb n c):=by
 have h:=(Ui (n:=b)).filter (fun j=>aV n j b);refine h.imp_of_mem (fun {a c} ha d hab=>?_);have d:=io d;exact DE n a b (by omega) e (RH.1 ha).2 c (by omega) (by omega)
theorem Fi{f:Nat->Int}(l:List Nat)(h:l.Pairwise (fun a b=>f a<=f b)):l=l.filter (fun j=>decide (f j<=z7))++l.filter (fun j=>!decide (f j<=z7)):=by
 induction l with
 | nil=>rfl
 | cons a l c =>
  obtain⟨i,g⟩:=List.pairwise_cons.1 h;have c:=c g
  by_cases d:f a<=z7
  ·rw[SG (by simpa using d),Ss (by simpa using d),Ti,<-c]
  ·have e:l.filter (fun j=>decide (f j<=z7))=[]:=by
    rw[Th];intro b k;have:=i b k;simp;omega
   rw[Ss (by simpa using d),SG (by simpa using d),e];rw[e]at c;rw[Uu]at c ⊢;rw[<-c]
theorem dW(h:∀j,j<y->z6 j=y0 j):(List.range y).filter z6=(List.range y).filter y0 :=
 Uj (fun j a=>h j (Ra.1 a))
theorem hZ:bb (n++[a]) (n.length+1)=aO (bb n n.length) a.k:=by
 rw[uG (n++[a]) n.length (by simp),lp n [a] _ (QR _)]
 congr 2
 simp
theorem ri:j8 (n++[a]) (n.length+1)=(j8 n n.length).filter (fun j=>decide (bb n j<=aO (bb n n.length) a.k))++(if 0<=aO 0 a.k then [n.length] else []):=by
 unfold j8;rw[R6,RV,UG]
 congr 1
 ·refine dW (fun j b=>?_)
  rw[rW (n++[a]) j n.length (by omega) (by simp),rj n [a] j _ (QR _),lp n [a] j (by omega),hZ,U5]
 ·have e:aV (n++[a]) n.length (n.length+1)=decide (0<=aO 0 a.k):=by
   rw[rW (n++[a]) n.length n.length (QR _) (by simp),A9,lp n [a] _ (QR _),hZ,Sv,decide_eq_decide];have:=yn 0 (bb n n.length) a.k;rw[Int.zero_add]at this;omega
  by_cases h:0<=aO 0 a.k
  ·rw[QW h,SG (by rw[e];simpa using h)];rfl
  ·rw[QT h,Ss (by rw[e];simpa using h)];rfl
theorem GY(a:y<=H.length)(h:zb∈j8 H y):bb H zb<=bb H y:=by
 have b:=io h;exact DE H zb y (by omega) a (RH.1 h).2 y (by omega) (QR _)
structure rU(F:Nat->List ByteArray)(S:List Sm)(L:List ByteArray)(B:List Nat):Prop where
 l:L=(j8 S S.length).flatMap F
 b:(B.length:Int)=bb S S.length
 o:∀i,i<B.length->B[i]?=some (((j8 S S.length).filter (fun j=>decide (bb S j<=(i:Int)))).flatMap F).length
theorem dx{l:List Nat}{G:Nat->List ByteArray}(h:∀j∈l,L j=G j):l.flatMap L=l.flatMap G:=by
 induction l with
 | nil=>rfl
 | cons a l b=>rw[RI,RI,h a (by simp),b (fun j c=>h j (by simp[c]))]
theorem rt(a:y<=H.length)(c:bb H y<=z3):(j8 H y).filter (fun j=>decide (bb H j<=z3))=j8 H y :=
 List.filter_eq_self.2 (fun j b=>by have:=GY a b;simp;omega)
theorem cg:(n++[a]).length=n.length+1:=by simp
theorem pg(b:y<=H.length)(c:Int):(j8 H y).filter (fun j=>decide (bb (H++[z5]) j<=c))=(j8 H y).filter (fun j=>decide (bb H j<=c)) :=
 Uj (fun j a=>by rw[lp H [z5] j (by have:=io a;omega)])
theorem rU.norm(h:rU L H k N)(s:Sm)(c:∀o,aO o s.k=o)(d:∀j,j<H.length->M j=L j):rU M (H++[s]) (k++M H.length) N:=by
 have e:=ri H s;rw[c,c,QW (TJ _),rt (QR _) (TJ _)]at e;have g:=h.b;refine⟨?_,?_,fun i f=>?_⟩
 ·rw[cg,e,Sh,h.l,dx (fun j a=>d j (io a))];simp
 ·rw[cg,hZ,c];exact g
 ·rw[cg,e,RV,pg (QR _),Ss (by rw[lp H [s] _ (QR _)];simp;omega),List.filter_nil,Rl,dx (fun j a=>d j (io (RH.1 a).1))]
  exact h.o i f
theorem rU.push(h:rU L H k N)(s:Sm)(d:∀o,aO o s.k=o+1)(m:∀j,j<H.length->M j=L j)(g:M H.length=[]):rU M (H++[s]) k (N++[k.length]):=by
 have e:=ri H s;rw[d,d,QW (by omega),rt (QR _) (by omega)]at e;have r:=h.b
 have f:∀p:Nat->Bool,([H.length].filter p).flatMap M=[]:=fun p=>by
  rw[List.flatMap_eq_nil_iff];intro j c;have:=Q9.1 (RH.1 c).1;rw[this];exact g
 refine⟨?_,?_,fun i n=>?_⟩
 ·rw[cg,e,Sh,h.l,dx (fun j c=>m j (io c))];simp[g]
 ·rw[cg,hZ,d];simp;omega
 ·rw[cg,e,RV,pg (QR _),Sh,f,Rl,dx (fun j c=>m j (io (RH.1 c).1))]
  simp only[List.length_append,List.length_cons,List.length_nil]at n
  by_cases a:i<N.length
  ·rw[Q7 a];exact h.o i a
  ·have q:i=N.length:=by omega
   rw[q,Q5 (QR _),RY,rt (QR _) (by omega),<-h.l];rfl
theorem rU.pop(h:rU L H k (N++[y]))(s:Sm)(d:∀o,aO o s.k=o-1)(n:∀j,j<H.length->M j=L j):rU M (H++[s]) (k.take y) N:=by
 have e:=ri H s;rw[d,d,QT (by omega),Rl]at e;have t:=h.b;simp only[List.length_append,List.length_cons,List.length_nil]at t;have p:bb H H.length-1=(N.length:Int):=by omega
 rw[p]at e;have c:=h.o N.length (by simp);rw[Q5 (QR _),RY]at c;have c:y=(((j8 H H.length).filter (fun j=>decide (bb H j<=(N.length:Int)))).flatMap L).length:=by simpa using c
 refine⟨?_,?_,fun i r=>?_⟩
 ·rw[cg,e,dx (G:=L) (fun j a=>n j (io (RH.1 a).1))]
  have g:=h.l;rw[Fi (f:=bb H) (N.length:Int) (j8 H H.length) (DD H _ (QR _)),Sh]at g;rw[g,c,So (QR _),RK]
 ·rw[cg,hZ,d];omega
 ·rw[cg,e,UG]
  have u:(j8 H H.length).filter (fun j=>decide (bb (H++[s]) j<=(i:Int))&&decide (bb H j<=(N.length:Int)))=(j8 H H.length).filter (fun j=>decide (bb H j<=(i:Int))) :=
   Uj (fun j a=>by
    rw[lp H [s] j (by have:=io a;omega)]
    by_cases m:bb H j<=(i:Int)
    ·have q:bb H j<=(N.length:Int):=by omega
     simp[m,q]
    ·simp[m])
  rw[u,dx (G:=L) (fun j a=>n j (io (RH.1 a).1))];have:=h.o i (by simp;omega);rw[Q7 r]at this;exact this
def Dk(T:List Tk)(S:List Sm)(j:Nat):List ByteArray:=if((au S j).k.toList == [36,118])=true then bu T (au S j).h else []
def Hw(T:List Tk)(S:List Sm)(j:Nat):List ByteArray:=if((au S j).k.toList == [36,99])=true then bu T (au S j).h else []
def Gg(T:List Tk)(S:List Sm)(j:Nat):List ByteArray:=if((au S j).k.toList == [36,102])=true then [tS T ((au S j).h+1)] else []
def LD(T:List Tk)(S:List Sm)(j:Nat):List ByteArray:=if((bG T (au S j)).toList == [])=true then [] else [bG T (au S j)]
theorem nO(F:Nat->List ByteArray)(l:List Nat)(x:ByteArray):aJ (l.flatMap F) x=l.any (fun j=>aJ (F j) x):=by
 unfold aJ;rw[List.any_flatMap]
theorem iJ:aJ [] w=false:=rfl
theorem wm(m:List ByteArray)(x:ByteArray):aJ (o++m) x=(aJ o x||aJ m x):=by
 unfold aJ;rw[UW]
theorem ru:aJ [f] w=(f.toList==w.toList):=by simp[aJ]
theorem uy(q:Nat->Bool):(z1.filter z2).any q=z1.any (fun j=>z2 j&&q j):=by
 rw[List.any_filter]
theorem GS:kZ l n w b=aJ ((j8 n b).flatMap (Dk l n)) w:=by
 rw[nO];unfold j8;rw[uy];unfold kZ jq;refine lm (fun j a=>?_);unfold pG Dk;rw[nR.2]
 cases h:((au n j).k.toList == [36,118])
 ·rw[QT (by simp),iJ];simp
 ·rw[QW rfl];simp[Bool.and_comm]
theorem tO:eF l n w b=aJ ((List.range b).flatMap (Hw l n)) w:=by
 rw[nO];unfold eF jq;refine lm (fun j a=>?_);unfold pG Hw;rw[nR.1]
 cases h:((au n j).k.toList == [36,99])
 ·rw[QT (by simp),iJ];simp
 ·rw[QW rfl];simp
theorem DG:jq l n ⟨#[36,118]⟩ w b false=aJ ((List.range b).flatMap (Dk l n)) w:=by
 rw[nO];unfold jq;refine lm (fun j a=>?_);unfold pG Dk;rw[nR.2]
 cases h:((au n j).k.toList == [36,118])
 ·rw[QT (by simp),iJ];simp
 ·rw[QW rfl];simp
theorem Ns:(match z1.find? z2 with | some j=>(j:Int) | none=>-1)=-1 ↔ z1.any z2=false:=by
 cases h:z1.find? z2 with
 | none=>simp only[true_iff];rw[TH];rw[Sk]at h;exact h
 | some j =>
  have a:=Tm h;have b:=Rz h;have c:z1.any z2=true:=RC.2 ⟨j,b,a⟩;rw[c];simp only[Bool.true_eq_false,iff_false];intro d;have:(0:Int)<=(j:Int):=by omega
  omega
theorem Gl:decide (0<=(match z1.find? z2 with | some j=>(j:Int) | none=>-1))=z1.any z2:=by
 cases h:z1.find? z2 with
 | none =>
  have:=(Ns z1 z2).1 (by rw[h]);rw[this];rfl
 | some j =>
  have a:z1.any z2=true:=RC.2 ⟨j,Rz h,Tm h⟩;rw[a];simp
theorem sQ:decide (0<=bE l n w b)=aJ ((List.range b).flatMap (LD l n)) w:=by
 rw[nO];unfold bE;refine(Gl (List.range b) (qL l n w)).trans ?_;refine lm (fun j a=>?_);unfold qL LD
 cases h:((bG l (au n j)).toList == [])
 ·rw[QT (by simp),ru];simp
 ·rw[QW rfl,iJ];simp
theorem Im:decide (0<=gg l n w b)=aJ ((j8 n b).flatMap (Gg l n)) w:=by
 rw[nO];unfold j8;rw[uy];unfold gg;refine(Gl (List.range b) (tV l n w b)).trans ?_;refine lm (fun j a=>?_);unfold tV Gg
 cases h:((au n j).k.toList == [36,102])
 ·rw[QT (by simp),iJ];simp
 ·rw[QW rfl,ru];simp[Bool.and_comm]
theorem Ao(d:l.length<=100000)(b:∀j,j<l.length->bh l (aj l) j=0):il l (aj l) (aj l).length/\l8 l (aj l) (aj l).length:=by
 have p:=fw l;have e:(aj l).length<=l.length:=oG l l.length;generalize aj l=S at *;have c:=fun j (a:j<S.length)=>Dq p j a (fun q _ f=>b q (by have:=(p.s j a).2;omega))
 refine⟨⟨QR _,by omega,d,fun j a=>(c j a).1,fun j a=>(c j a).2.1,fun j a=>?_⟩,fun j a=>(c j a).2.2⟩;have:=(p.s j a).1.lt;have:=(p.s j a).2;omega
structure rR(T:List Tk)(S:List Sm)(d:Db):Prop where
 con:d.U8=(List.range S.length).flatMap (Hw T S)
 var:∀x,aJ d.U9 x=aJ ((List.range S.length).flatMap (Dk T S)) x
 act:rU (Dk T S) S d.Vf (d.blocks.map (·.1))
 typ:rU (Gg T S) S d.Vi (d.blocks.map (·.2))
def jH(T:List Tk)(S:List Sm):List ByteArray:=(List.range S.length).flatMap (LD T S)
def eZ(l:List UInt8)(k:Int):Prop:=(l=[36,99]/\k=7)∨(l=[36,118]/\k=8)∨(l=[36,100]/\k=1)∨(l=[36,102]/\k=2)∨(l=[36,101]/\k=3)∨(l=[36,97]/\k=4)∨(l=[36,112]/\k=5)
theorem eZ.c:eZ [36,99] 7:=by simp[eZ]
theorem eZ.v:eZ [36,118] 8:=by simp[eZ]
theorem eZ.d:eZ [36,100] 1:=by simp[eZ]
theorem eZ.f:eZ [36,102] 2:=by simp[eZ]
theorem eZ.e:eZ [36,101] 3:=by simp[eZ]
theorem eZ.a:eZ [36,97] 4:=by simp[eZ]
theorem eZ.p:eZ [36,112] 5:=by simp[eZ]
def kB(y:ByteArray):Bool:=!(y.toList == [36,61])
def tF(T:List Tk)(d:Db):Prop :=
 (fA T=T.length/\d.kind=0/\d.U6=[]/\d.Va=false/\d.Ve=jH T (aj T)) ∨
 (fA T+1=T.length/\d.kind=6/\d.U6=[]/\d.Va=false/\d.Ve=jH T (aj T)++[tS T (fA T)]/\((tS T (fA T)).toList == [])=false/\ii (tS T (fA T)) ⟨#[36]⟩=false) ∨
 ∃(key:ByteArray) (head:Nat) (B:List ByteArray),ew T (fA T)=(key,head)/\fA T<head/\head<=T.length/\eZ key.toList d.kind/\fa T head T.length=B/\d.Va=aJ B ⟨#[36,61]⟩/\d.U6=B.takeWhile kB/\(d.Va=true->d.kind=5/\d.U6≠[]) /\
  d.Ve=jH T (aj T)++(if(aC key||aG key)=true then [tS T (fA T)] else [])/\((aC key||aG key)=true->((tS T (fA T)).toList == [])=false)
theorem tF.none(a:fA T=T.length)(b:x.kind=0)(d:x.U6=[])(c:x.Va=false)(e:x.Ve=jH T (aj T)):tF T x:=Q1 ⟨a,b,d,c,e⟩
theorem tF.lab(a:fA T+1=T.length)(b:x.kind=6)(d:x.U6=[])(c:x.Va=false)(e:x.Ve=jH T (aj T)++[tS T (fA T)])(f:((tS T (fA T)).toList == [])=false)(g:ii (tS T (fA T)) ⟨#[36]⟩=false):tF T x:=QV (Q1 ⟨a,b,d,c,e,f,g⟩)
theorem tF.body(b:ew T (fA T)=(f,d))(c:fA T<d)(g:d<=T.length)(e:eZ f.toList x.kind)(h:fa T d T.length=o)(k:x.Va=aJ o ⟨#[36,61]⟩)(l:x.U6=o.takeWhile kB)(j:x.Va=true->x.kind=5/\x.U6≠[])(i:x.Ve=jH T (aj T)++(if(aC f||aG f)=true then [tS T (fA T)] else []))(a:(aC f||aG f)=true->((tS T (fA T)).toList == [])=false):tF T x:=QV (QV ⟨f,d,o,b,c,g,e,h,k,l,j,i,a⟩)
theorem rU.congr(h:rU L H k N)(c:∀j,j<H.length->M j=L j):rU M H k N :=
 ⟨by rw[dx (G:=L) (fun j a=>c j (io a))];exact h.l,h.b,fun i d=>by rw[dx (G:=L) (fun j a=>c j (io (RH.1 a).1))];exact h.o i d⟩
section
variable {T U:List Tk} {S M:List Sm}
theorem oZ(b:il T S S.length)(j:Nat)(a:j<S.length):Dk (T++U) (S++M) j=Dk T S j:=by
 unfold Dk;rw[jL S M j a]
 split
 ·next h=>rw[sg T U _ (b.v j a h)]
 ·rfl
theorem vl(b:il T S S.length)(j:Nat)(a:j<S.length):Hw (T++U) (S++M) j=Hw T S j:=by
 unfold Hw;rw[jL S M j a]
 split
 ·next h=>rw[sg T U _ (b.c j a h)]
 ·rfl
theorem vm(b:l8 T S S.length)(j:Nat)(a:j<S.length):Gg (T++U) (S++M) j=Gg T S j:=by
 unfold Gg;rw[jL S M j a]
 split
 ·next h=>rw[fI T U _ (b j a h)]
 ·rfl
theorem Gs(c:il T S S.length)(j:Nat)(b:j<S.length):LD (T++U) (S++M) j=LD T S j:=by
 unfold LD;rw[jL S M j b,yK _ (c.a j b)]
end
theorem oL(h:∀j,j<y->M j=L j):(List.range y).flatMap M=(List.range y).flatMap L:=dx (fun j a=>h j (Ra.1 a))
theorem fe(h:∀j,j<y->M j=L j):(List.range (y+1)).flatMap M=(List.range y).flatMap L++M y:=by
 rw[R6,Sh,oL h];simp
theorem qn(b:il T H H.length):jH (T++I) H=jH T H:=by
 unfold jH;exact oL (fun j a=>by have:=Gs (U:=I) (M:=[]) b j a;rw[Rl]at this;exact this)
theorem tZ(c:il T H H.length):jH (T++I) (H++[a])=jH T H++LD (T++I) (H++[a]) H.length:=by
 unfold jH;rw[cg];exact fe (fun j b=>Gs c j b)
theorem rR.same(h:rR T H x)(b:il T H H.length)(m:l8 T H H.length)(e:z4.U8=x.U8)(k:z4.U9=x.U9)(n:z4.Vf=x.Vf)(g:z4.Vi=x.Vi)(c:z4.blocks=x.blocks):rR (T++I) H z4:=by
 have d:∀j,j<H.length->Dk (T++I) H j=Dk T H j:=fun j a=>by have:=oZ (U:=I) (M:=[]) b j a;rw[Rl]at this;exact this
 have l:∀j,j<H.length->Hw (T++I) H j=Hw T H j:=fun j a=>by have:=vl (U:=I) (M:=[]) b j a;rw[Rl]at this;exact this
 have f:∀j,j<H.length->Gg (T++I) H j=Gg T H j:=fun j a=>by have:=vm (U:=I) (M:=[]) m j a;rw[Rl]at this;exact this
 exact⟨by rw[e,oL l];exact h.con,fun i=>by rw[k,oL d];exact h.var i,by rw[n,c];exact h.act.congr d,by rw[g,c];exact h.typ.congr f⟩
theorem lX:au (n++[a]) n.length=a:=uk n a
theorem rR.close(h:rR T H x)(c:il T H H.length)(l:l8 T H H.length)(s:Sm)(e:∀o,aO o s.k=o)(f:z4.U8=x.U8++Hw (T++I) (H++[s]) H.length)(i:∀b,aJ z4.U9 b=(aJ x.U9 b||aJ (Dk (T++I) (H++[s]) H.length) b))(m:z4.Vf=x.Vf++Dk (T++I) (H++[s]) H.length)(g:z4.Vi=x.Vi++Gg (T++I) (H++[s]) H.length)(d:z4.blocks=x.blocks):rR (T++I) (H++[s]) z4 :=
 ⟨by rw[cg,fe (fun j a=>vl c j a),<-h.con];exact f,fun b=>by rw[cg,fe (fun j a=>oZ c j a),wm,<-h.var];exact i b,
  by rw[m,d];exact h.act.norm s e (fun j a=>oZ c j a),by rw[g,d];exact h.typ.norm s e (fun j a=>vm l j a)⟩
theorem Bk(f:l.length<=100000)(a:∀j,j<l.length->bh l (aj l) j=0):bh (l++[D]) (aj (l++[D])) l.length =
  if l.length=fA l then dw l (aj l) D.s (aj l).length
  else if l.length<(ew (l++[D]) (fA l)).2 then(if(aC D.s||aG D.s)=true then 0 else 14)
  else lW l (aj l) (ew (l++[D]) (fA l)).1 D.s (aj l).length (fa l (ew (l++[D]) (fA l)).2 l.length):=by
 obtain⟨b,k⟩:=Ao l f a;obtain⟨M,g,h⟩:=zl l [D];have p:=fw l;rw[g,EL];generalize aj l=S at *
 have i:i8 (S++M) l.length=S.length:=by
  unfold i8;rw[Ga l.length S M h];exact KY _ S S.length (fun q d=>⟨au S q,GN S q d,(p.s q d).2⟩) (fun s c=>by rw[Rx (QR _)]at c;cases c)
 unfold bh;rw[i,Bf S M _ (QR _),oV]
 by_cases e:l.length=kz S S.length
 ·rw[QW e,QW e,yB _ b]
 ·rw[QT e,QT e]
  split
  ·rfl
  ·next m=>rw[CR _ _ _ b k,F0 l [D] _ _ (by omega) (QR _)]
theorem De(h:rR T H x)(b:x.Ve=jH T H)(a:ByteArray):jC T H a H.length=dK x a:=by
 unfold jC dK;rw[sQ,tO,DG,<-h.con,<-h.var,b,TF];rfl
theorem J0(h:rR T H x)(b:x.Ve=jH T H)(a:ByteArray):(decide (0<=bE T H a H.length)||(eF T H a H.length||kZ T H a H.length))=dX x a:=by
 unfold dX;rw[sQ,tO,GS,<-h.con,<-h.act.l,b,TF];rfl
theorem Bv(h:rR T H x):bb H H.length=(x.blocks.length:Int):=by
 have:=h.act.b;rw[Ri]at this;exact this.symm
theorem rr(h:S.toList=i)(o:Int):aO o S=if(i == [36,125])=true then(if(i == [36,123])=true then o+1 else o)-1 else(if(i == [36,123])=true then o+1 else o):=by
 unfold aO;rw[h]
theorem kc{k:ByteArray}(h:k.toList=i):aC k=((i == [36,97])||(i == [36,112]))/\aG k=((i == [36,102])||(i == [36,101]))/\bS k=((i == [36,46])||(i == [36,123])||(i == [36,125])):=by
 unfold aC aG bS;rw[h];exact⟨rfl,rfl,rfl⟩
theorem Fm(h:S.toList=i):ii S ⟨#[36]⟩=ii ⟨i.toArray⟩ ⟨#[36]⟩:=by
 rw[oD (x:=S) (l:=i) (by rw[h];simp)]
theorem eZ.dep(h:eZ S.toList z3):(∀o,aO o S=o)/\ii S ⟨#[36]⟩=true/\bS S=false:=by
 generalize hl:S.toList=l at h;have a:=fun o=>rr hl o
 have b:=Fm hl;have c:=(kc hl).2.2
 (rcases h with ⟨rfl,rfl⟩ | ⟨rfl,rfl⟩ | ⟨rfl,rfl⟩ | ⟨rfl,rfl⟩ | ⟨rfl,rfl⟩ | ⟨rfl,rfl⟩ | ⟨rfl,rfl⟩) <;> exact⟨fun o=>a o,b.trans (by decide +kernel),c⟩
section
variable {T:List Tk} {t:Tk} {d:Db}
theorem Cy(b:fA T=T.length)(a:ii t.s ⟨#[36]⟩=true):ew (T++[t]) (fA T)=(t.s,T.length+1):=by
 unfold ew;rw[b,oV,a];simp
theorem sO(b:ew T (fA T)=(S,y))(f:fA T<y)(g:y<=T.length)(d:eZ S.toList z3):ew (T++[t]) (fA T)=(S,y):=by
 rw[<-b]
 by_cases h:fA T+1<T.length
 ·exact Ae T [t] _ h
 ·have e:ew T (fA T)=(tS T (fA T),fA T+1):=by
   unfold ew;rw[QW (by simp;right;omega)]
  rw[b]at e;have c:S=tS T (fA T):=congrArg Prod.fst e;have a:=d.dep.2.1;rw[c]at a;unfold ew;rw[fI T [t] _ (by omega),a];simp
theorem m8:fa l b l.length=(l.drop b).map (·.s):=by
 unfold fa;rw[Tu (by rw[RT];exact QR _)]
theorem KL(a:b<=T.length):fa (T++[D]) b (T++[D]).length=fa T b T.length++[D.s]:=by
 rw[m8,m8,Sg a];simp
theorem vO(L:List Tk)(t:Tk)(c:∀u∈L,(u.s.toList == [36,46])=false)(e:(t.s.toList == [36,46])=true):ke (L++[t])=(L.map (·.s)).takeWhile kB:=by
 induction L with
 | nil=>rw[Uu,ke,QW (tA e)];rfl
 | cons a L g =>
  have d:=c a (by simp);rw[Ti,ke,Tp]
  cases b:(a.s.toList == [36,61])
  ·rw[QT (by unfold mM;rw[d,b];simp),SN (by unfold kB;rw[b];rfl),g (fun u f=>c u (by simp[f]))]
  ·rw[QW (by unfold mM;rw[b];rfl),Tl (by unfold kB;rw[b];simp)]
theorem yU(d:fA l<=b):∀u∈l.drop b,bS u.s=false:=by
 intro u a;obtain⟨q,c,e⟩:=R0 a;rw[RT]at c;have:=(fw l).n (b+q) (by unfold fA at d;omega) (by omega);rw[TI]at e;unfold tS at this;rw[QQ,QP (by omega)]at this;rw[<-e];exact this
theorem Lo(h:aJ o ⟨#[36,61]⟩=false):∀y∈o,kB y=true:=by
 intro y a;unfold aJ at h;rw[TH]at h;have:=h y a;have e:(⟨#[36,61]⟩:ByteArray).toList=[36,61]:=by decide +kernel
 rw[e]at this;unfold kB;simpa using this
theorem Ka(B:List ByteArray)(h:∀y∈B,kB y=true):B.takeWhile kB=B:=by
 induction B with
 | nil=>rfl
 | cons a B c=>rw[SN (h a (by simp)),c (fun y b=>h y (by simp[b]))]
theorem vp(h:aJ o ⟨#[36,61]⟩=false):o.takeWhile kB=o:=Ka o (Lo o h)
theorem MF(B:List ByteArray)(y:ByteArray)(h:aJ B ⟨#[36,61]⟩=true):(B++[y]).takeWhile kB=B.takeWhile kB:=by
 have e:(⟨#[36,61]⟩:ByteArray).toList=[36,61]:=by decide +kernel
 induction B with
 | nil=>cases h
 | cons a B d =>
  rw[Ti]
  cases b:(a.toList == [36,61])
  ·have c:aJ B ⟨#[36,61]⟩=true:=by
    unfold aJ at h ⊢;rw[TE,e,b,Sp]at h;rw[e];exact h
   rw[SN (by unfold kB;rw[b];rfl),SN (by unfold kB;rw[b];rfl),d c]
  ·rw[Tl (by unfold kB;rw[b];simp),Tl (by unfold kB;rw[b];simp)]
end
theorem ci{m:List UInt8}(h:(S.toList==i)=true):(S.toList==m)=(i==m):=by
 have:S.toList=i:=by simpa using h
 rw[this]
theorem dd(h:(S.toList==i)=true):S.toList=i:=by simpa using h
section
variable {T:List Tk} {t:Tk} {d:Db}
theorem qo(d:fA T=T.length)(c:bS t.s=true):aj (T++[t])=aj T++[⟨fA T,T.length+1,T.length+1,t.s⟩]/\fA (T++[t])=(T++[t]).length:=by
 obtain⟨a,b⟩:=oR T t;rw[QW c,Cy d (kM c).1]at a;rw[QW c]at b;exact⟨a,by rw[b];simp⟩
theorem mF(c:bS t.s=false):aj (T++[t])=aj T/\fA (T++[t])=fA T:=by
 obtain⟨a,b⟩:=oR T t;rw[QT (by rw[c];simp)]at a b;exact⟨a,b⟩
theorem OF{S:List Sm}{s:Sm}{U:List Tk}(a:(s.k.toList == [36,118])=false)(b:(s.k.toList == [36,99])=false)(c:(s.k.toList == [36,102])=false):Dk U (S++[s]) S.length=[]/\Hw U (S++[s]) S.length=[]/\Gg U (S++[s]) S.length=[]:=by
 unfold Dk Hw Gg;rw[lX,a,b,c];exact⟨rfl,rfl,rfl⟩
theorem Ep{S:List Sm}{s:Sm}{U:List Tk}(h:(aC s.k||aG s.k)=false):LD U (S++[s]) S.length=[]:=by
 have e:bG U s=⟨#[]⟩:=by unfold bG;rw[h,QT (by simp)]
 unfold LD;rw[lX,e,QW oI]
theorem NE(h:(aC z5.k||aG z5.k)=true)(b:((tS T z5.a).toList == [])=false):LD T (H++[z5]) H.length=[tS T z5.a]:=by
 have e:bG T z5=tS T z5.a:=by unfold bG;rw[h,QW rfl]
 unfold LD;rw[lX,e,QT (by rw[b];simp)]
theorem Fl(u:il T (aj T) (aj T).length)(X:l8 T (aj T) (aj T).length)(I:rR T (aj T) d)(N:fA T=T.length)(hk:d.kind=0)(E:d.U6=[])(A:d.Va=false)(J:d.Ve=jH T (aj T))(hx:(t.s.toList == [])=false) :
  dw T (aj T) t.s (aj T).length=(av d t.s).1/\((av d t.s).1=0->rR (T++[t]) (aj (T++[t])) (av d t.s).2/\tF (T++[t]) (av d t.s).2):=by
 have F:=Bv I;have Y:=De I J t.s
 -- a keyword of a statement without a ac
 have H:∀{n:Int} {W:Db},eZ t.s.toList n->(aC t.s||aG t.s)=false->W={ d with kind:=n }->rR (T++[t]) (aj (T++[t])) W/\tF (T++[t]) W:=fun {n W} w P e=>by
  obtain⟨C,G⟩:=mF (T:=T) (t:=t) w.dep.2.2;have O:ew (T++[t]) (fA (T++[t]))=(t.s,T.length+1):=by rw[G];exact Cy N w.dep.2.1
  have hB:fa (T++[t]) (T.length+1) (T++[t]).length=[]:=by rw[m8];simp
  subst e;refine⟨by rw[C];exact I.same u X rfl rfl rfl rfl rfl,tF.body t.s (T.length+1) [] O (by rw[G];omega) (by simp) w hB (by rw[iJ];exact A) E (fun h=>by rw[A]at h;cases h) ?_ (fun h=>by rw[P]at h;cases h)⟩;rw[C,P,QT (by simp),Rl,qn u];exact J
 cases b:(t.s.toList == [36,123])
 ·cases f:(t.s.toList == [36,125])
  ·cases m:(t.s.toList == [36,99])
   ·cases g:(t.s.toList == [36,118])
    ·cases r:(t.s.toList == [36,100])
     ·cases y:(aC t.s||aG t.s)
      ·have h7:(t.s.toList == [36,102])=false/\(t.s.toList == [36,101])=false/\(t.s.toList == [36,97])=false/\(t.s.toList == [36,112])=false:=by
        unfold aC aG at y;simp only[Bool.or_eq_false_iff]at y;exact⟨y.2.1,y.2.2,y.1.1,y.1.2⟩
       obtain⟨g1,g2,g3,g4⟩:=h7
       have k:av d t.s=bI d t.s:=by
        unfold av;rw[b,f,m,g,r,g1,g2,g3,g4];simp
       have i:dw T (aj T) t.s (aj T).length=if ii t.s ⟨#[36]⟩=true then 8 else if gG t.s=false then 12 else if dK d t.s=true then 13 else 0:=by
        unfold dw;rw[b,f,m,g,r,y,Y];simp
       rw[k,i,ia];unfold bI
       cases k1:dA t.s
       ·cases k2:gG t.s
        ·exact⟨rfl,fun h=>by simp at h⟩
        ·cases k3:dK d t.s
         ·refine⟨rfl,fun _=>?_⟩
          have D:bS t.s=false:=by
           cases Q:bS t.s
           ·rfl
           ·have:=(kM Q).1
            rw[ia,k1]at this;cases this
          obtain⟨C,G⟩:=mF (T:=T) (t:=t) D;have Z:tS (T++[t]) (fA (T++[t]))=t.s:=by rw[G,N,oV]
          simp only[Bool.false_eq_true,if_false];exact⟨by rw[C];exact I.same u X rfl rfl rfl rfl rfl,tF.lab (by rw[G,N];simp) rfl E A (by rw[Z,C,qn u,<-J];rfl) (by rw[Z];exact hx) (by rw[Z,ia];exact k1)⟩
         ·exact⟨rfl,fun h=>by simp at h⟩
       ·exact⟨rfl,fun h=>by simp at h⟩
      ·have k:av d t.s=(11,d):=by
        unfold av;rw[b,f,m,g,r];unfold aC aG at y;rw[QT (by simp),QT (by simp),QT (by simp),QT (by simp),QT (by simp),QW];simp only[Bool.or_eq_true]at y
        rcases y with (h | h) | (h | h)
        ·exact QV (QV (Q1 h))
        ·exact QV (QV (QV h))
        ·exact Q1 h
        ·exact QV (Q1 h)
       have i:dw T (aj T) t.s (aj T).length=11:=by
        unfold dw;rw[b,f,m,g,r,y];simp
       rw[k,i];exact⟨rfl,fun h=>by cases h⟩
     ·have w:=eZ.d
      rw[<-dd r]at w
      have k:av d t.s=(0,{ d with kind:=1 }):=by
       unfold av;rw[b,f,m,g,r];simp
      have i:dw T (aj T) t.s (aj T).length=0:=by
       unfold dw;rw[r];simp
      rw[k,i];exact⟨rfl,fun _=>H w (by rw[(kc (dd r)).1,(kc (dd r)).2.1];decide) rfl⟩
    ·have w:=eZ.v
     rw[<-dd g]at w
     have k:av d t.s=(0,{ d with kind:=8 }):=by
      unfold av;rw[b,f,m,g];simp
     have i:dw T (aj T) t.s (aj T).length=0:=by
      unfold dw;rw[g];simp
     rw[k,i];exact⟨rfl,fun _=>H w (by rw[(kc (dd g)).1,(kc (dd g)).2.1];decide) rfl⟩
   ·have w:=eZ.c
    rw[<-dd m]at w;have g:(t.s.toList == [36,118])=false:=by rw[ci m];decide
    have r:(t.s.toList == [36,100])=false:=by rw[ci m];decide
    by_cases B:0<d.blocks.length
    ·have k:av d t.s=(10,d):=by
      unfold av;rw[b,f,m];simp[B]
     have i:dw T (aj T) t.s (aj T).length=10:=by
      unfold dw;rw[b,f,m,g,r,F,SM (show(0:Int)<(d.blocks.length:Int) by omega)];simp
     rw[k,i];exact⟨rfl,fun h=>by cases h⟩
    ·have k:av d t.s=(0,{ d with kind:=7 }):=by
      unfold av;rw[b,f,m,QT (by simp),QT (by simp),QW rfl,QT B]
     have i:dw T (aj T) t.s (aj T).length=0:=by
      unfold dw;rw[b,f,m,g,r,F,Sb (show ¬(0:Int)<(d.blocks.length:Int) by omega)];simp
     rw[k,i];exact⟨rfl,fun _=>H w (by rw[(kc (dd m)).1,(kc (dd m)).2.1];decide) rfl⟩
  ·have g:(t.s.toList == [36,118])=false:=by rw[ci f];decide
   have r:(t.s.toList == [36,100])=false:=by rw[ci f];decide
   have Q:bS t.s=true:=by rw[(kc (dd f)).2.2];decide
   have k:av d t.s=(match d.blocks.getLast? with | none=>(9,d) | some p=>(0,cw d p)):=by
    unfold av;rw[b,f,QT (by simp),QW rfl];rfl
   cases B:d.blocks.getLast? with
   | none =>
    have K:d.blocks.length=0:=by rw[List.getLast?_eq_none_iff]at B;rw[B];rfl
    have i:dw T (aj T) t.s (aj T).length=9:=by
     unfold dw;rw[b,f,g,r,F,K];simp
    rw[k,i,B];exact⟨rfl,fun h=>by cases h⟩
   | some q =>
    have D:d.blocks≠[]:=fun e=>by rw[e]at B;cases B
    have ad:d.blocks=d.blocks.dropLast++[q]:=by
     have:=Uv D;rw[Ta D]at B
     cases B
     exact this.symm
    have K:0<d.blocks.length:=TU.2 D
    have i:dw T (aj T) t.s (aj T).length=0:=by
     unfold dw;rw[b,f,g,r,F,show((d.blocks.length:Int)==0)=false by simp;omega];simp
    rw[k,i,B];refine⟨rfl,fun _=>?_⟩;obtain⟨C,G⟩:=qo (T:=T) (t:=t) N Q;have M:∀o,aO o t.s=o-1:=fun o=>by rw[rr (dd f)];rfl
    obtain⟨V,n2,n3⟩:=OF (S:=aj T) (s:=⟨fA T,T.length+1,T.length+1,t.s⟩) (U:=T++[t]) g (by show(t.s.toList==_)=false;rw[ci f];decide) (by show(t.s.toList==_)=false;rw[ci f];decide);have hn:=Ep (S:=aj T) (s:=⟨fA T,T.length+1,T.length+1,t.s⟩) (U:=T++[t]) (by show(aC t.s||aG t.s)=false;rw[(kc (dd f)).1,(kc (dd f)).2.1];decide);have P:=I.act;have hy:=I.typ;rw[ad,Ry]at P hy
    have L:(cw d q).U8=d.U8/\(cw d q).U9=d.U9/\(cw d q).Vf=d.Vf.take q.1/\(cw d q).Vi=d.Vi.take q.2/\(cw d q).blocks=d.blocks.dropLast/\(cw d q).kind=d.kind/\(cw d q).U6=d.U6/\(cw d q).Va=d.Va/\(cw d q).Ve=d.Ve:=by
     unfold cw dq
     split <;> exact⟨rfl,rfl,rfl,rfl,rfl,rfl,rfl,rfl,rfl⟩
    obtain⟨d1,d2,d3,d4,d5,d6,d7,d8,d9⟩:=L;simp only;rw[C];refine⟨⟨?_,fun x=>?_,?_,?_⟩,tF.none G (by rw[d6];exact hk) (by rw[d7];exact E) (by rw[d8];exact A) ?_⟩
    ·rw[d1,cg,fe (fun j l=>vl u j l),n2,Rl];exact I.con
    ·rw[d2,cg,fe (fun j l=>oZ u j l),V,Rl];exact I.var x
    ·rw[d3,d5];exact P.pop ⟨fA T,T.length+1,T.length+1,t.s⟩ M (fun j l=>oZ u j l)
    ·rw[d4,d5];exact hy.pop ⟨fA T,T.length+1,T.length+1,t.s⟩ M (fun j l=>vm X j l)
    ·rw[d9,C,tZ _ u,hn,Rl];exact J
 ·have g:(t.s.toList == [36,118])=false:=by rw[ci b];decide
  have Q:bS t.s=true:=by rw[(kc (dd b)).2.2];decide
  have k:av d t.s=(0,{ d with blocks:=d.blocks++[(d.Vf.length,d.Vi.length)],rbl:=d.rbl++[d.Vn.length] }):=by
   unfold av;rw[b,QW rfl]
  have i:dw T (aj T) t.s (aj T).length=0:=by
   unfold dw;rw[b];simp
  rw[k,i];refine⟨rfl,fun _=>?_⟩;obtain⟨C,G⟩:=qo (T:=T) (t:=t) N Q;have M:∀o,aO o t.s=o+1:=fun o=>by rw[rr (dd b)];rfl
  obtain⟨V,n2,n3⟩:=OF (S:=aj T) (s:=⟨fA T,T.length+1,T.length+1,t.s⟩) (U:=T++[t]) g (by show(t.s.toList==_)=false;rw[ci b];decide) (by show(t.s.toList==_)=false;rw[ci b];decide);have hn:=Ep (S:=aj T) (s:=⟨fA T,T.length+1,T.length+1,t.s⟩) (U:=T++[t]) (by show(aC t.s||aG t.s)=false;rw[(kc (dd b)).1,(kc (dd b)).2.1];decide);simp only;rw[C];refine⟨⟨?_,fun x=>?_,?_,?_⟩,tF.none G hk E A ?_⟩
  ·rw[cg,fe (fun j l=>vl u j l),n2,Rl];exact I.con
  ·rw[cg,fe (fun j l=>oZ u j l),V,Rl];exact I.var x
  ·simp only[List.map_append,List.map_cons,List.map_nil]
   exact I.act.push ⟨fA T,T.length+1,T.length+1,t.s⟩ M (fun j l=>oZ u j l) V
  ·simp only[List.map_append,List.map_cons,List.map_nil]
   exact I.typ.push ⟨fA T,T.length+1,T.length+1,t.s⟩ M (fun j l=>vm X j l) n3
  ·rw[C,tZ _ u,hn,Rl];exact J
theorem Mv(w:il T (aj T) (aj T).length)(C:l8 T (aj T) (aj T).length)(I:rR T (aj T) d)(z:fA T+1=T.length)(l:d.U6=[])(k:d.Va=false)(A:d.Ve=jH T (aj T)++[tS T (fA T)])(D:((tS T (fA T)).toList == [])=false)(q:ii (tS T (fA T)) ⟨#[36]⟩=false) :
  ew (T++[t]) (fA T)=(t.s,T.length+1)/\(if(aC t.s||aG t.s)=true then(0:Int) else 14)=(aH d t.s).1/\((aH d t.s).1=0->rR (T++[t]) (aj (T++[t])) (aH d t.s).2/\tF (T++[t]) (aH d t.s).2):=by
 have j:ew (T++[t]) (fA T)=(t.s,T.length+1):=by
  unfold ew;rw[fI T [t] _ (by omega),q,QT (by simp;omega),z,oV,<-z]
 have g:∀{n:Int},eZ t.s.toList n->(aC t.s||aG t.s)=true->rR (T++[t]) (aj (T++[t])) { d with kind:=n }/\tF (T++[t]) { d with kind:=n }:=fun {n} c b=>by
  obtain⟨y,r⟩:=mF (T:=T) (t:=t) c.dep.2.2;have B:fa (T++[t]) (T.length+1) (T++[t]).length=[]:=by rw[m8];simp
  have x:tS (T++[t]) (fA (T++[t]))=tS T (fA T):=by rw[r,fI T [t] _ (by omega)]
  refine⟨by rw[y];exact I.same w C rfl rfl rfl rfl rfl,tF.body t.s (T.length+1) [] (by rw[r];exact j) (by rw[r];omega) (by simp) c B (by rw[iJ];exact k) l (fun h=>by rw[show({ d with kind:=n }:Db).Va=d.Va from rfl,k]at h;cases h) ?_ (fun _=>by rw[x];exact D)⟩;rw[y,b,QW rfl,qn w,x];exact A
 refine⟨j,?_⟩;unfold aH
 cases m:(t.s.toList == [36,102])
 ·cases o:(t.s.toList == [36,101])
  ·cases v:(t.s.toList == [36,97])
   ·cases u:(t.s.toList == [36,112])
    ·have b:(aC t.s||aG t.s)=false:=by unfold aC aG;rw[m,o,v,u];rfl
     rw[b];exact⟨rfl,fun h=>by simp at h⟩
    ·have b:(aC t.s||aG t.s)=true:=by unfold aC aG;rw[u];simp
     have c:=eZ.p;rw[<-dd u]at c;rw[b];exact⟨rfl,fun _=>g c b⟩
   ·have b:(aC t.s||aG t.s)=true:=by unfold aC aG;rw[v];simp
    have c:=eZ.a;rw[<-dd v]at c;rw[b];exact⟨rfl,fun _=>g c b⟩
  ·have b:(aC t.s||aG t.s)=true:=by unfold aC aG;rw[o];simp
   have c:=eZ.e;rw[<-dd o]at c;rw[b];exact⟨rfl,fun _=>g c b⟩
 ·have b:(aC t.s||aG t.s)=true:=by unfold aC aG;rw[m];simp
  have c:=eZ.f;rw[<-dd m]at c;rw[b];exact⟨rfl,fun _=>g c b⟩
end
theorem BS(l:List ByteArray):∀v x,aJ (dR v l) x=(aJ v x||aJ l x):=by
 induction l with
 | nil=>intro v x;rw[iJ,Sz];rfl
 | cons a l f =>
  intro v x;have e:dR v (a :: l)=dR (if aJ v a=true then v else v++[a]) l:=rfl;have d:aJ (a :: l) x=((a.toList==x.toList)||aJ l x):=rfl;rw[e,f,d]
  by_cases h:aJ v a=true
  ·rw[QW h]
   cases b:(a.toList==x.toList)
   ·rw[Sp]
   ·have c:aJ v x=true:=by
     have:a.toList=x.toList:=by simpa using b
     unfold aJ at h ⊢;rw[<-this];exact h
    rw[c];rfl
  ·rw[QT h,wm,ru,TF]
section
variable {T:List Tk} {t:Tk} {d:Db}
theorem qA(b:eZ i d.kind)(x:ByteArray)(p:Pl):aX d x p =
  if(x.toList == [36,46])=true then lL d p
  else if(x.toList == [36,61])=true/\(d.kind==5)=true/\d.Va=false then b7 d
  else if dA x=true then(8,d)
  else if d.Va=true then(0,{ d with Vh:=d.Vh++[(x,p)] })
  else if(aZ d x==0)=true then(0,{ d with U6:=d.U6++[x] })
  else(aZ d x,d):=by
 have a:(d.kind==0)=false/\(d.kind==6)=false:=by
  generalize d.kind=k at b
  (rcases b with ⟨rfl,rfl⟩ | ⟨rfl,rfl⟩ | ⟨rfl,rfl⟩ | ⟨rfl,rfl⟩ | ⟨rfl,rfl⟩ | ⟨rfl,rfl⟩ | ⟨rfl,rfl⟩) <;> exact⟨by decide,by decide⟩
 unfold aX;rw[a.1,a.2,QT (by simp),QT (by simp)]
theorem O8(a:eZ i z3):(z3==5)=(i == [36,112]):=by(rcases a with ⟨rfl,rfl⟩ | ⟨rfl,rfl⟩ | ⟨rfl,rfl⟩ | ⟨rfl,rfl⟩ | ⟨rfl,rfl⟩ | ⟨rfl,rfl⟩ | ⟨rfl,rfl⟩) <;> decide
theorem KT(I:rR T (aj T) d)(j:eZ S.toList d.kind)(c:d.U6=k)(e:(aC S||aG S)=false->d.Ve=jH T (aj T))(x:ByteArray) :
  (if((S.toList == [36,99])||(S.toList == [36,118]))=true then jW T (aj T) x (aj T).length (S.toList == [36,99]) k else jm T (aj T) S x (aj T).length k)=aZ d x:=by
 have b:=fun h=>De I (e h) x
 have a:=fun h=>J0 I (e h) x
 have g:kZ T (aj T) x (aj T).length=aJ d.Vf x:=by rw[GS,<-I.act.l]
 have f:eF T (aj T) x (aj T).length=aJ d.U8 x:=by rw[tO,<-I.con]
 have i:decide (0<=gg T (aj T) x (aj T).length)=aJ d.Vi x:=by rw[Im,<-I.typ.l]
 obtain⟨n,o,-⟩:=kc (k:=S) rfl;unfold jW jm aZ iY iZ fC fy;rw[c]
 have p:(gg T (aj T) x (aj T).length<0) ↔ aJ d.Vi x=false:=by
  rw[<-i];simp
 have q:(0<=gg T (aj T) x (aj T).length) ↔ aJ d.Vi x=true:=by
  rw[<-i];simp
 generalize hkl:S.toList=l at *;generalize d.kind=m at j ⊢;simp only[g,f,p,q];rw[n,o]at b a
 rcases j with ⟨rfl,rfl⟩ | ⟨rfl,rfl⟩ | ⟨rfl,rfl⟩ | ⟨rfl,rfl⟩ | ⟨rfl,rfl⟩ | ⟨rfl,rfl⟩ | ⟨rfl,rfl⟩
 ·have b:=b (by decide)
  rw[b];simp only[show(([36,99]:List UInt8) == [36,99])=true from by decide,show((7:Int)==7)=true from rfl,Bool.true_or,if_true,Bool.true_and,Bool.not_true,Bool.false_and,Bool.false_eq_true,if_false]
  cases aJ k x <;> cases dK d x <;> simp
 ·have a:=a (by decide)
  rw[g,f]at a;rw[a];simp only[show(([36,118]:List UInt8) == [36,99])=false from by decide,show(([36,118]:List UInt8) == [36,118])=true from by decide,show((8:Int)==7)=false from rfl,show((8:Int)==8)=true from rfl,Bool.or_true,if_true,Bool.false_and,Bool.not_false,Bool.true_and,Bool.false_eq_true,if_false]
  cases aJ k x <;> cases dX d x <;> simp
 ·simp only[show(([36,100]:List UInt8) == [36,99])=false from by decide,show(([36,100]:List UInt8) == [36,118])=false from by decide,show(([36,100]:List UInt8) == [36,100])=true from by decide,show((1:Int)==7)=false from rfl,show((1:Int)==8)=false from rfl,show((1:Int)==1)=true from rfl,Bool.or_false,if_true,Bool.false_eq_true,if_false]
 ·simp only[show(([36,102]:List UInt8) == [36,99])=false from by decide,show(([36,102]:List UInt8) == [36,118])=false from by decide,show(([36,102]:List UInt8) == [36,100])=false from by decide,show(([36,102]:List UInt8) == [36,102])=true from by decide,show((2:Int)==7)=false from rfl,show((2:Int)==8)=false from rfl,show((2:Int)==1)=false from rfl,show((2:Int)==2)=true from rfl,Bool.or_false,if_true,Bool.false_eq_true,if_false,beq_iff_eq]
 ·simp only[show(([36,101]:List UInt8) == [36,99])=false from by decide,show(([36,101]:List UInt8) == [36,118])=false from by decide,show(([36,101]:List UInt8) == [36,100])=false from by decide,show(([36,101]:List UInt8) == [36,102])=false from by decide,show((3:Int)==7)=false from rfl,show((3:Int)==8)=false from rfl,show((3:Int)==1)=false from rfl,show((3:Int)==2)=false from rfl,Bool.or_false,Bool.false_eq_true,if_false,beq_iff_eq]
 ·simp only[show(([36,97]:List UInt8) == [36,99])=false from by decide,show(([36,97]:List UInt8) == [36,118])=false from by decide,show(([36,97]:List UInt8) == [36,100])=false from by decide,show(([36,97]:List UInt8) == [36,102])=false from by decide,show((4:Int)==7)=false from rfl,show((4:Int)==8)=false from rfl,show((4:Int)==1)=false from rfl,show((4:Int)==2)=false from rfl,Bool.or_false,Bool.false_eq_true,if_false,beq_iff_eq]
 ·simp only[show(([36,112]:List UInt8) == [36,99])=false from by decide,show(([36,112]:List UInt8) == [36,118])=false from by decide,show(([36,112]:List UInt8) == [36,100])=false from by decide,show(([36,112]:List UInt8) == [36,102])=false from by decide,show((5:Int)==7)=false from rfl,show((5:Int)==8)=false from rfl,show((5:Int)==1)=false from rfl,show((5:Int)==2)=false from rfl,Bool.or_false,Bool.false_eq_true,if_false,beq_iff_eq]
theorem OR(j:eZ S.toList d.kind)(b:d.Va=aJ k ⟨#[36,61]⟩)(c:d.U6=k.takeWhile kB)(e:d.Va=true->d.kind=5/\d.U6≠[])(p:Pl):ip S k=(lL d p).1/\((lL d p).1=0->(lL d p).2={ aY d p with kind:=0,label:=⟨#[]⟩,U6:=[],Va:=false,Vh:=[] }/\(d.kind=2->1<d.U6.length)):=by
 have n:d.Va=false->d.U6=k:=fun h=>by rw[c];exact vp k (by rw[<-b];exact h)
 have o:d.Va=true->0<k.length/\0<d.U6.length:=fun h=>by
  refine⟨?_,TU.2 (e h).2⟩;rw[b]at h
  cases k with
  | nil=>cases h
  | cons a k=>simp
 unfold ip lL l5;rw[<-b];generalize hkl:S.toList=l at *;generalize hkk:d.kind=s at *;clear c b
 cases f:d.Va
 ·rw[n f]
  generalize k.length=m
  (rcases j with ⟨rfl,rfl⟩ | ⟨rfl,rfl⟩ | ⟨rfl,rfl⟩ | ⟨rfl,rfl⟩ | ⟨rfl,rfl⟩ | ⟨rfl,rfl⟩ | ⟨rfl,rfl⟩) <;> simp <;> (repeat' split) <;> simp_all <;> omega
 ·obtain⟨t,q⟩:=o f
  have g:=(e f).1;subst g;generalize k.length=m at *;generalize d.U6.length=r at *
  rcases j with ⟨-,h⟩ | ⟨-,h⟩ | ⟨-,h⟩ | ⟨-,h⟩ | ⟨-,h⟩ | ⟨-,h⟩ | ⟨rfl,-⟩
  all_goals first | (exfalso;revert h;decide) | skip
  simp
  (repeat' split) <;> simp_all <;> omega
end
section
variable {T:List Tk} {t:Tk} {d:Db}
theorem Gu:∀{x:ByteArray},(x.toList == [36,46])=true->bS x=true/\ii x ⟨#[36]⟩=true:=fun {x} h=>by
 rw[(kc (dd h)).2.2,Fm (dd h)];decide +kernel
theorem Fk(W:il T (aj T) (aj T).length)(fo:l8 T (aj T) (aj T).length)(I:rR T (aj T) d)(hk:ew T (fA T)=(S,y))(P:fA T<y)(hh:y<=T.length)(U:eZ S.toList d.kind)(N:fa T y T.length=k)(J:d.U6=k.takeWhile kB)(K:d.Va=true->d.kind=5/\d.U6≠[])(hl:d.Ve=jH T (aj T)++(if(aC S||aG S)=true then [tS T (fA T)] else []))(h0:(aC S||aG S)=true->((tS T (fA T)).toList == [])=false)(ht:(t.s.toList == [36,46])=true)(p:Pl)(G:d.kind=2->1<d.U6.length)(O:d.Va=false->d.U6=k)(w:x={ aY d p with kind:=0,label:=⟨#[]⟩,U6:=[],Va:=false,Vh:=[] }) :
  rR (T++[t]) (aj (T++[t])) x/\tF (T++[t]) x:=by
 obtain⟨he,-⟩:=Gu ht;obtain⟨E,Z⟩:=oR T t;rw[QW he,sO hk P hh U]at E;rw[QW he]at Z;simp only at E
 have v:bu (T++[t]) y=d.U6:=by
  unfold bu;rw[Sg hh,vO _ t (fun u hu=>?_) ht,J,<-N,m8];have:=yU T y (by omega) u hu;unfold bS at this;simp only[Bool.or_eq_false_iff]at this;exact this.1.1
 have C:=U.dep.1;obtain⟨s,H⟩:∃s:Sm,s=⟨fA T,T.length+1,y,S⟩:=⟨_,rfl⟩
 rw[<-H]at E;have q:s.k=S:=by rw[H]
 have A:s.h=y:=by rw[H]
 have M:s.a=fA T:=by rw[H]
 have Y:Dk (T++[t]) (aj T++[s]) (aj T).length=if(S.toList == [36,118])=true then d.U6 else []:=by
  unfold Dk;rw[lX,q,A,v]
 have v2:Hw (T++[t]) (aj T++[s]) (aj T).length=if(S.toList == [36,99])=true then d.U6 else []:=by
  unfold Hw;rw[lX,q,A,v]
 have v3:Gg (T++[t]) (aj T++[s]) (aj T).length=if(S.toList == [36,102])=true then [tS (T++[t]) (y+1)] else []:=by
  unfold Gg;rw[lX,q,A]
 have F:jH (T++[t]) (aj T++[s])=d.Ve:=by
  rw[tZ s W,hl]
  congr 1
  cases R:(aC S||aG S)
  ·rw[QT (by simp)];exact Ep (by rw[q];exact R)
  ·have e:tS (T++[t]) s.a=tS T (fA T):=by rw[M,fI T [t] _ (by omega)]
   rw[QW rfl,<-e];exact NE (by rw[q];exact R) (by rw[e];exact h0 R)
 have Q:fA (T++[t])=(T++[t]).length:=by rw[Z];simp
 have dv:x.U8=(aY d p).U8/\x.U9=(aY d p).U9/\x.Vf=(aY d p).Vf/\x.Vi=(aY d p).Vi/\x.blocks=(aY d p).blocks/\x.Ve=(aY d p).Ve:=by
  rw[w];exact⟨rfl,rfl,rfl,rfl,rfl,rfl⟩
 obtain⟨i,j,g,f,b,c⟩:=dv;rw[E]
 have n:x.U8=d.U8++(if(S.toList == [36,99])=true then d.U6 else [])->(∀r,aJ x.U9 r=(aJ d.U9 r||aJ (if(S.toList == [36,118])=true then d.U6 else []) r))->x.Vf=d.Vf++(if(S.toList == [36,118])=true then d.U6 else [])->x.Vi=d.Vi++(if(S.toList == [36,102])=true then [tS (T++[t]) (y+1)] else [])->x.blocks=d.blocks->x.Ve=d.Ve->rR (T++[t]) (aj T++[s]) x/\tF (T++[t]) x:=fun g1 g2 g3 g4 g5 g6 =>
  ⟨I.close W fo s (fun o=>by rw[q];exact C o) (by rw[v2];exact g1) (fun r=>by rw[Y];exact g2 r) (by rw[Y];exact g3) (by rw[v3];exact g4) g5,
   tF.none Q (by rw[w]) (by rw[w]) (by rw[w]) (by rw[E,F];exact g6)⟩
 -- the seven keys
 have m:∀B:Int,d.kind=B->(B==7)=false->(B==8)=false->(B==2)=false->aY d p=mY d p:=fun B L e7 e8 e2=>by
  unfold aY mO;rw[L,e7,e8,e2];simp
 generalize hkl:S.toList=l at *;generalize hkk:d.kind=B at *
 rcases U with ⟨rfl,rfl⟩ | ⟨rfl,rfl⟩ | ⟨rfl,rfl⟩ | ⟨rfl,rfl⟩ | ⟨rfl,rfl⟩ | ⟨rfl,rfl⟩ | ⟨rfl,rfl⟩
 ·have e:aY d p={ d with U8:=d.U8++d.U6 }:=by unfold aY;rw[hkk];rfl
  rw[e]at i j g f b c;exact n (by rw[i];rfl) (fun r=>by rw[j];simp[iJ]) (by rw[g];simp) (by rw[f];simp) b c
 ·have e:aY d p=dO d d.U6.length:=by unfold aY;rw[hkk];rfl
  rw[e]at i j g f b c;unfold dO at i j g f b c;exact n (by rw[i];simp) (fun r=>by rw[j];simp only[List.take_length];rw[BS];rfl) (by rw[g];rfl) (by rw[f];simp) b c
 ·have e:=m 1 rfl rfl rfl rfl
  rw[e]at i j g f b c;unfold mY at i j g f b c;exact n (by rw[i];simp) (fun r=>by rw[j];simp[iJ]) (by rw[g];simp) (by rw[f];simp) b c
 ·have G:=G rfl
  have V:d.Va=false:=by
   cases h:d.Va
   ·rfl
   ·exact absurd (K h).1 (by decide)
  have D:=O V
  have e:aY d p=mY { d with Vi:=d.Vi++[d.U6.getD 1 ⟨#[]⟩] } p:=by
   unfold aY mO;rw[hkk,QT (by decide),QT (by decide),QW ⟨rfl,G⟩]
  have hg:d.U6.getD 1 ⟨#[]⟩=tS (T++[t]) (y+1):=by
   have z:y+1<T.length:=by
    rw[D,<-N,m8,Ri,RT]at G;omega
   rw[D,<-N,m8,fI T [t] _ z];unfold tS;rw[QQ,QQ,Rq,SV,QP z];rfl
  rw[e]at i j g f b c;unfold mY at i j g f b c;exact n (by rw[i];simp) (fun r=>by rw[j];simp[iJ]) (by rw[g];simp) (by rw[f,hg];rfl) b c
 ·have e:=m 3 rfl rfl rfl rfl
  rw[e]at i j g f b c;unfold mY at i j g f b c;exact n (by rw[i];simp) (fun r=>by rw[j];simp[iJ]) (by rw[g];simp) (by rw[f];simp) b c
 ·have e:=m 4 rfl rfl rfl rfl
  rw[e]at i j g f b c;unfold mY at i j g f b c;exact n (by rw[i];simp) (fun r=>by rw[j];simp[iJ]) (by rw[g];simp) (by rw[f];simp) b c
 ·have e:=m 5 rfl rfl rfl rfl
  rw[e]at i j g f b c;unfold mY at i j g f b c;exact n (by rw[i];simp) (fun r=>by rw[j];simp[iJ]) (by rw[g];simp) (by rw[f];simp) b c
theorem AC(i:il T (aj T) (aj T).length)(C:l8 T (aj T) (aj T).length)(I:rR T (aj T) d)(w:ew T (fA T)=(S,y))(b:fA T<y)(l:y<=T.length)(m:eZ S.toList d.kind)(v:fa T y T.length=k)(n:d.Ve=jH T (aj T)++(if(aC S||aG S)=true then [tS T (fA T)] else []))(D:(aC S||aG S)=true->((tS T (fA T)).toList == [])=false)(z:bS t.s=false)(B:x.U8=d.U8)(u:x.U9=d.U9)(q:x.Vf=d.Vf)(o:x.Vi=d.Vi)(r:x.blocks=d.blocks)(p:x.Ve=d.Ve)(A:x.kind=d.kind)(f:x.Va=aJ (k++[t.s]) ⟨#[36,61]⟩)(c:x.U6=(k++[t.s]).takeWhile kB)(e:x.Va=true->x.kind=5/\x.U6≠[]):rR (T++[t]) (aj (T++[t])) x/\tF (T++[t]) x:=by
 obtain⟨j,g⟩:=mF (T:=T) (t:=t) z;have a:tS (T++[t]) (fA (T++[t]))=tS T (fA T):=by rw[g,fI T [t] _ (by omega)]
 refine⟨by rw[j];exact I.same i C B u q o r,tF.body S y (k++[t.s]) (by rw[g];exact sO w b l m) (by rw[g];exact b) (by simp;omega) (by rw[A];exact m) (by rw[KL t y l,v]) f c e ?_ (fun h=>by rw[a];exact D h)⟩;rw[j,qn i,a,p];exact n
theorem JR(r:il T (aj T) (aj T).length)(C:l8 T (aj T) (aj T).length)(I:rR T (aj T) d)(z:ew T (fA T)=(S,y))(c:fA T<y)(A:y<=T.length)(i:eZ S.toList d.kind)(w:fa T y T.length=k)(a:d.Va=aJ k ⟨#[36,61]⟩)(b:d.U6=k.takeWhile kB)(j:d.Va=true->d.kind=5/\d.U6≠[])(n:d.Ve=jH T (aj T)++(if(aC S||aG S)=true then [tS T (fA T)] else []))(D:(aC S||aG S)=true->((tS T (fA T)).toList == [])=false)(p:Pl) :
  lW T (aj T) S t.s (aj T).length k=(aX d t.s p).1/\((aX d t.s p).1=0->rR (T++[t]) (aj (T++[t])) (aX d t.s p).2/\tF (T++[t]) (aX d t.s p).2):=by
 have l:d.Va=false->d.U6=k:=fun h=>by rw[b];exact vp k (by rw[<-a];exact h)
 have q:(⟨#[36,61]⟩:ByteArray).toList=[36,61]:=by decide +kernel
 rw[qA i];unfold lW
 cases Q:(t.s.toList == [36,46])
 ·simp only[Bool.false_eq_true,if_false]
  rw[<-a,<-O8 i]
  cases u:((t.s.toList == [36,61])&&((d.kind==5) && !d.Va))
  ·have G:¬((t.s.toList == [36,61])=true/\(d.kind==5)=true/\d.Va=false):=fun h=>by
    rw[h.1,h.2.1,h.2.2]at u;cases u
   simp only[Bool.false_eq_true,if_false];rw[QT G,ia]
   cases M:dA t.s
   ·have g:bS t.s=false:=by
     cases H:bS t.s
     ·rfl
     ·have:=(kM H).1
      rw[ia,M]at this;cases this
    have E:(t.s.toList == [36,61])=false:=by
     cases H:(t.s.toList == [36,61])
     ·rfl
     ·have e:=Fm (dd H)
      rw[ia,M]at e;exact absurd e (by decide +kernel)
    simp only[Bool.false_eq_true,if_false]
    cases B:d.Va
    ·have x:=l B
     simp only[Bool.false_eq_true,if_false];have V:=KT I i x (fun h=>by rw[n,QT (by rw[h];simp),Rl]) t.s;rw[V]
     have f:aJ (k++[t.s]) ⟨#[36,61]⟩=false:=by
      rw[wm,ru,<-a,B,q,E];rfl
     cases J:(aZ d t.s==0)
     ·simp only[Bool.false_eq_true,if_false]
      exact⟨trivial,fun h=>by rw[h]at J;cases J⟩
     ·rw[QW rfl]
      refine⟨by simpa using J,fun _=>AC r C I z c A i w n D g rfl rfl rfl rfl rfl rfl rfl f.symm ?_ (fun h=>Bool.noConfusion h)⟩;rw[vp _ f];simp only;rw[x]
    ·have L:aJ k ⟨#[36,61]⟩=true:=by rw[<-a];exact B
     rw[QW rfl,QW rfl];exact⟨rfl,fun _=>AC r C I z c A i w n D g rfl rfl rfl rfl rfl rfl rfl (by rw[wm,L,Ts]) (by rw[MF _ _ L];exact b) (fun _=>j B)⟩
   ·rw[QW rfl,QW rfl]
    exact⟨rfl,fun h=>by cases h⟩
  ·simp only[Bool.and_eq_true,Bool.not_eq_true']at u
   obtain⟨v,N,K⟩:=u;have x:=l K;rw[QW rfl,QW (show(t.s.toList == [36,61])=true/\(d.kind==5)=true/\d.Va=false from⟨v,N,K⟩)];unfold b7;rw[x]
   by_cases m:k.length=0
   ·rw[QW m,QW m]
    exact⟨rfl,fun h=>by cases h⟩
   ·rw[QT m,QT m]
    have g:bS t.s=false:=by rw[(kc (dd v)).2.2];decide
    have F:aJ k ⟨#[36,61]⟩=false:=by rw[<-a];exact K
    have f:aJ (k++[t.s]) ⟨#[36,61]⟩=true:=by rw[wm,ru,q,v,Bool.or_true]
    refine⟨rfl,fun _=>AC r C I z c A i w n D g rfl rfl rfl rfl rfl rfl rfl f.symm ?_ (fun _=>⟨by simpa using N,?_⟩)⟩
    ·have o:=Lo k F
     rw[List.takeWhile_append_of_pos o,Tl (by unfold kB;rw[v];simp),Rl]
    ·simp only
     intro e;rw[e]at m;exact m rfl
 ·rw[QW rfl,QW rfl]
  obtain⟨R,P⟩:=OR i a b j p;refine⟨R,fun h=>?_⟩;obtain⟨U,O⟩:=P h;exact Fk r C I z c A i w b j n D Q p O l U
theorem pH(a:(S.toList == [36,123])=false)(b:(S.toList == [36,125])=false)(o:Int):aO o S=o:=by
 unfold aO;rw[a,b];rfl
theorem zM(h:dA S=false)(o:Int):aO o S=o:=by
 have a:bS S=false:=by
  cases b:bS S
  ·rfl
  ·have:=(kM b).1
   rw[ia,h]at this;cases this
 unfold bS at a;simp only[Bool.or_eq_false_iff]at a;exact pH a.1.2 a.2 o
theorem vU(d:Db)(p:Pl):(aY d p).blocks=d.blocks:=by
 unfold aY dO mY mO
 split
 ·rfl
 ·split
  ·rfl
  ·split <;> rfl
theorem Dc(o:tF T d)(x:ByteArray)(p:Pl)(h:(aX d x p).1=0):((aX d x p).2.blocks.length:Int)=aO (d.blocks.length:Int) x:=by
 rcases o with ⟨z,j,f,g,m⟩ | ⟨z,j,f,g,m,A,v⟩ | ⟨y,n,B,j,w,a,C,E,g,f,t,m,F⟩
 ·have e:aX d x p=av d x:=by unfold aX;rw[j];rfl
  rw[e]at h ⊢
  cases c:(x.toList == [36,123])
  ·cases b:(x.toList == [36,125])
   ·rw[pH c b]
    unfold av bI;rw[c,b,QT (by simp),QT (by simp)]
    repeat' split
    all_goals rfl
   ·have l:av d x=(match d.blocks.getLast? with | none=>(9,d) | some p=>(0,cw d p)):=by
     unfold av;rw[c,b,QT (by simp),QW rfl];rfl
    rw[l]at h ⊢
    cases k:d.blocks.getLast? with
    | none=>rw[k]at h;cases h
    | some q =>
     have s:0<d.blocks.length:=by
      rw[TU];intro e;rw[e]at k;cases k
     have u:(cw d q).blocks=d.blocks.dropLast:=by
      unfold cw dq
      split <;> rfl
     simp only;rw[u,rr (dd b),SF]
     show((d.blocks.length-1:Nat):Int)=(d.blocks.length:Int)-1
     omega
  ·have l:av d x=(0,{ d with blocks:=d.blocks++[(d.Vf.length,d.Vi.length)],rbl:=d.rbl++[d.Vn.length] }):=by
    unfold av;rw[c,QW rfl]
   rw[l,rr (dd c)];simp only[List.length_append,List.length_cons,List.length_nil]
   show((d.blocks.length+(0+1):Nat):Int)=(d.blocks.length:Int)+1
   omega
 ·have e:aX d x p=aH d x:=by unfold aX;rw[j];rfl
  rw[e]at h ⊢
  have D:aO (d.blocks.length:Int) x=(d.blocks.length:Int):=by
   refine pH ?_ ?_ _
   ·cases a:(x.toList == [36,123])
    ·rfl
    ·exfalso
     unfold aH at h;rw[ci a,ci a,ci a,ci a,QT (by decide),QT (by decide),QT (by decide),QT (by decide)]at h
     cases h
   ·cases a:(x.toList == [36,125])
    ·rfl
    ·exfalso
     unfold aH at h;rw[ci a,ci a,ci a,ci a,QT (by decide),QT (by decide),QT (by decide),QT (by decide)]at h
     cases h
  rw[D];unfold aH
  repeat' split
  all_goals rfl
 ·rw[qA C]at h ⊢
  cases c:(x.toList == [36,46])
  ·rw[c,QT (by simp)]at h
   rw[QT (by simp)]
   by_cases b:(x.toList == [36,61])=true/\(d.kind==5)=true/\d.Va=false
   ·rw[QW b,pH (by rw[ci b.1];decide) (by rw[ci b.1];decide)]
    unfold b7
    split <;> rfl
   ·rw[QT b]at h ⊢
    cases r:dA x
    ·rw[zM r,QT (by simp)]
     repeat' split
     all_goals rfl
    ·rw[r,QW rfl]at h;cases h
  ·rw[QW rfl,pH (by rw[ci c];decide) (by rw[ci c];decide)]
   unfold lL
   split
   ·rfl
   ·split
    ·rfl
    ·simp only;rw[vU]
end
end Go.Proofs.YtpddjjabfbfifaaGreat
