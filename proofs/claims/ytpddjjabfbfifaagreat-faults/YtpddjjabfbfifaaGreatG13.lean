import Derived.Test.YtpddjjabfbfifaaGreatG04
import Derived.Test.YtpddjjabfbfifaaGreatG10
namespace Go.Proofs.YtpddjjabfbfifaaGreat
open Go.RowKit Tryz
set_option maxHeartbeats 0
variable{A:Int}{o z1:List Tk}{H q:Nat}{z6 y0:Nat->Bool}{w:List Sm}{z0 z4:Nat->List ByteArray}{z2:Sm}{m:List ByteArray}{g:List Nat}{D zt:Db}{u:List UInt8}{i:ByteArray}{I:List St}{B:St}(s:ByteArray)(L y:List Tk)(z5 k:List Sm)(N:Nat)(y1:Int)(z7:List Nat)(x:ByteArray)(r:Sm)(b:Nat)(y2:Bool)(z:List ByteArray)(l:ByteArray)(zb:Nat->Bool)(z3:Tk)
def lH(nm d:ByteArray)(i:rT):Tk:=⟨i.text,i.rule,nm,aP d i.pos,bm d i.pos⟩
def Oj(nm d:ByteArray):Nat->Nat->List Tk
 | 0,_=>[]
 | f+1,k=>lH nm d (bC d k).1 :: (if aI (bC d k).1=true then Oj nm d f (bC d k).2 else [])
def mS(nm d:ByteArray)(k:Nat):List Tk:=Oj nm d (d.size-k+1) k
theorem MT(f k:Nat)(a:k<=l.size)(b:l.size-k+1<=f):Oj x l f k=mS x l k:=by
 unfold mS
 suffices h:∀f g k,k<=l.size->l.size-k+1<=f->l.size-k+1<=g->Oj x l f k=Oj x l g k from h _ _ _ a b (QR _)
 clear b a f k;intro f
 induction f with
 | zero=>intro g k _ h;omega
 | succ f e =>
  intro g k a b i
  cases g with
  | zero=>omega
  | succ g =>
   rw[Oj,Oj]
   split
   ·next h =>
    have c:=gq l k a;have d:=c.2.2 h;rw[e g _ c.2.1 (by omega) (by omega)]
   ·rfl
theorem lE(c:b<=x.size)(h:aI (bC x b).1=true):mS s x b=lH s x (bC x b).1 :: mS s x (bC x b).2:=by
 have a:=gq x b c;have d:=a.2.2 h
 conv=>lhs;unfold mS
 rw[Oj,QW h,MT s x _ _ a.2.1 (by omega)]
theorem j7(h:aI (bC x b).1=false):mS s x b=[lH s x (bC x b).1]:=by
 unfold mS;rw[Oj,QT (by simp[h])]
theorem Fa(h:b<x.size)(a:cO (aF x b)=true):bC x b=bC x (b+1):=by
 unfold bC;rw[GL x b h a]
theorem uV(h:b<x.size)(c:cO (aF x b)=true):mS s x b=mS s x (b+1):=by
 have e:=Fa x b h c
 cases a:aI (bC x b).1
 ·rw[j7 s x b a,j7 s x (b+1) (by rw[<-e];exact a),e]
 ·rw[lE s x b (by omega) a,lE s x (b+1) (by omega) (by rw[<-e];exact a),e]
theorem Ds(n:Nat):∀a,(∀j,a<=j->j<a+n->j<l.size/\cO (aF l j)=false/\fn (aF l j)=true)->cG l a=cG l (a+n):=by
 induction n with
 | zero=>intro a _;rfl
 | succ n c =>
  intro a h;have b:=h a (by omega) (by omega);rw[GU l a b.1 b.2.1 b.2.2,c (a+1) (fun j d e=>h j (by omega) (by omega))]
  congr 1;omega
theorem DJ(h:qH A=false)(a:cO A=false):fn A=true:=by
 unfold qH at h;rw[a]at h;simpa using h
theorem CY(a:N<b)(i:b<=s.size)(c:∀j,N<=j->j<b->cO (aF s j)=false/\fn (aF s j)=true)(f:b<s.size->cO (aF s b)=true):bC s N=(⟨s.extract N b,0,false,N⟩,b):=by
 have d:=Ds s (b-N) N (fun j e g=>⟨by omega,c j e (by omega)⟩);rw[show N+(b-N)=b by omega]at d;refine ze s N N b (tw s N (fun h=>?_)).symm d.symm (fun h=>?_) a
 ·rw[(c N (QR _) a).1]at h;simp at h
 ·rw[f h.1]at h;simp at h
theorem og(i:Nat):∀j,di l i<=j->j<i->cO (aF l j)=false:=by
 induction i with
 | zero=>intro j _ h;omega
 | succ i c =>
  intro j a d;rw[di]at a
  split at a
  ·omega
  ·next b =>
   by_cases e:j=i
   ·rw[e];simpa using b
   ·exact c j a (by omega)
theorem xx(i:Nat)(h:i<=l.size)(f:∀j,j<i->qH (aF l j)=false):mS x l 0=jd x l i++mS x l (di l i):=by
 induction i with
 | zero=>rfl
 | succ i b =>
  have b:=b (by omega) (fun j k=>f j (by omega));rw[jd,di]
  cases a:cO (aF l i)
  ·rw[QT (by simp),QT (by simp)];exact b
  ·rw[QW rfl,QW rfl]
   have m:=oh l i;unfold je
   split
   ·next e =>
    rw[b,e,uV x l i (by omega) a]
   ·next e =>
    have g:=CY l (di l i) i (by omega) (by omega) (fun j c d=>⟨og l i j c d,DJ (f j (by omega)) (og l i j c d)⟩) (fun _=>a);rw[b,lE x l (di l i) (by omega) (by rw[g];rfl),g,<-uV x l i (by omega) a];simp[lH,me]
theorem FM:ij x l=mS x l 0:=by
 unfold ij
 cases d:jF l with
 | some i =>
  unfold jF at d;rw[Sj]at d;obtain⟨b,c,r⟩:=d;have c:=Ra.1 c;have f:∀j,j<i->qH (aF l j)=false:=fun j m=>by simpa using r j m
  have p:=oh l i;have g:∀j,di l i<=j->j<di l i+(i-di l i)->j<l.size/\cO (aF l j)=false/\fn (aF l j)=true:=fun j b c=>⟨by omega,og l i j b (by omega),DJ (f j (by omega)) (og l i j b (by omega))⟩
  have n:fn (aF l i)=false/\cO (aF l i)=false:=by
   unfold qH at b;simpa using b
  have q:=Ds l (i-di l i) (di l i) g;rw[show di l i+(i-di l i)=i by omega]at q
  have o:di l i=skip l (di l i):=(tw l _ (fun h=>by
   by_cases e:di l i=i
   ·rw[e,n.2]at h;simp at h
   ·rw[(g (di l i) (QR _) (by omega)).2.1]at h;simp at h)).symm
  have k:=CW l (di l i) (di l i) i o q.symm c n.2 n.1;simp only;rw[xx x l i (by omega) f,j7 x l (di l i) (by rw[k];rfl),k];simp[lH,me]
 | none =>
  have f:∀j,j<l.size->qH (aF l j)=false:=fun j m=>by
   unfold jF at d;rw[Sk]at d;simpa using d j (Ra.2 m)
  have p:=oh l l.size;have a:bC l l.size=(⟨⟨#[]⟩,0,true,l.size⟩,l.size):=CX l l.size l.size l.size (tw l _ (fun h=>by omega)).symm rfl (fun h=>by omega) (QR _);simp only;rw[xx x l l.size (QR _) f];unfold je
  split
  ·next e =>
   rw[e,j7 x l l.size (by rw[a];rfl),a];simp[lH,me]
  ·next e =>
   have k:=CY l (di l l.size) l.size (by omega) (QR _) (fun j b c=>⟨og l _ j b c,DJ (f j c) (og l _ j b c)⟩) (fun h=>by omega);rw[lE x l (di l l.size) p (by rw[k];rfl),k,j7 x l l.size (by rw[a];rfl),a];simp[lH,me]
def Od(nm d:ByteArray):Nat->Nat->List Tk
 | 0,_=>[]
 | f+1,k=>lH nm d (ay d k).1 :: (if aI (ay d k).1=true then Od nm d f (ay d k).2 else [])
def lZ(nm d:ByteArray)(k:Nat):List Tk:=Od nm d (d.size-k+1) k
theorem MA(f k:Nat)(a:k<=l.size)(b:l.size-k+1<=f):Od x l f k=lZ x l k:=by
 unfold lZ
 suffices h:∀f g k,k<=l.size->l.size-k+1<=f->l.size-k+1<=g->Od x l f k=Od x l g k from h _ _ _ a b (QR _)
 clear b a f k;intro f
 induction f with
 | zero=>intro g k _ h;omega
 | succ f e =>
  intro g k a b i
  cases g with
  | zero=>omega
  | succ g =>
   rw[Od,Od]
   split
   ·next h =>
    have c:=fG l k a;have d:=c.2.2 h;rw[e g _ c.2.1 (by omega) (by omega)]
   ·rfl
theorem j6(c:b<=x.size)(h:aI (ay x b).1=true):lZ s x b=lH s x (ay x b).1 :: lZ s x (ay x b).2:=by
 have a:=fG x b c;have d:=a.2.2 h
 conv=>lhs;unfold lZ
 rw[Od,QW h,MA s x _ _ a.2.1 (by omega)]
theorem j5(h:aI (ay x b).1=false):lZ s x b=[lH s x (ay x b).1]:=by
 unfold lZ;rw[Od,QT (by simp[h])]
theorem Fq(j:Nat)(d:b<=x.size)(c:j<=x.size)(h:ay x b=ay x j):lZ s x b=lZ s x j:=by
 cases a:aI (ay x b).1
 ·rw[j5 s x b a,j5 s x j (by rw[<-h];exact a),h]
 ·rw[j6 s x b d a,j6 s x j c (by rw[<-h];exact a),h]
theorem GQ(c:UInt8):ii l ⟨#[36,c]⟩=(List.range l.size).any (fun i=>decide (1<=i)&&(aF l (i-1)==36)&&(aF l i==(c.toNat:Int))):=by
 have d:(⟨#[36,c]⟩:ByteArray).size=2:=rfl
 have b:∀i,i+2<=l.size->(rO l ⟨#[36,c]⟩ i=((aF l i==36)&&(aF l (i+1)==(c.toNat:Int)))):=fun i a=>by
  have e:(l.extract i (i+2)).toList=[l[i]'(by omega),l[i+1]'(by omega)]:=by
   apply UN
   ·rw[RZ];simp;omega
   ·intro n o k
    simp only[List.length_cons,List.length_nil]at k;have m:n=0∨n=1:=by omega
    simp only[ByteArray.toList_eq,ByteArray.data_extract,Array.getElem_toList,Array.getElem_extract]
    rcases m with rfl | rfl <;> rfl
  unfold rO;rw[d,e,bP l i (by omega),bP l (i+1) (by omega)];have j:(⟨#[36,c]⟩:ByteArray).toList=[36,c]:=by rw[RZ]
  rw[j]
  have f:∀x:UInt8,((x.toNat:Int)==36)=(x==36):=fun x=>by
   rw[SA];simp only[beq_iff_eq]
   constructor
   ·intro h;exact UInt8.toNat_inj.1 (by rw[show x.toNat=36 by omega];rfl)
   ·rintro rfl;rfl
  have g:∀x:UInt8,((x.toNat:Int)==(c.toNat:Int))=(x==c):=fun x=>by
   rw[SA];simp only[beq_iff_eq]
   constructor
   ·intro h;exact UInt8.toNat_inj.1 (by omega)
   ·rintro rfl;rfl
  rw[f,g];simp[Bool.beq_eq_decide_eq,Bool.decide_and]
 unfold ii;rw[d,SA,RC,RC]
 constructor
 ·rintro ⟨i,a,h⟩
  have a:=Ra.1 a;rw[Rg,Sx]at h;rw[b i h.1]at h;exact⟨i+1,Ra.2 (by omega),by rw[SD,Rg,Rg,Sx];rw[Rg]at h;exact⟨⟨by omega,h.2.1⟩,h.2.2⟩⟩
 ·rintro ⟨i,a,h⟩
  have a:=Ra.1 a;rw[Rg,Rg,Sx]at h;refine⟨i-1,Ra.2 (by omega),?_⟩;rw[Rg,Sx,b (i-1) (by omega),Rg,show i-1+1=i by omega];exact⟨by omega,h.1.2,h.2⟩
theorem uB:kE l=(ii l ⟨#[36,40]⟩||ii l ⟨#[36,41]⟩):=by
 rw[GQ,GQ,SA,RB];unfold kE;simp only[List.any_eq_true,Bool.and_eq_true,Bool.or_eq_true]
 constructor
 ·rintro ⟨i,c,b,a | a⟩
  ·exact Q1 ⟨i,c,b,a⟩
  ·exact QV ⟨i,c,b,a⟩
 ·rintro (⟨i,c,b,a⟩ | ⟨i,c,b,a⟩)
  ·exact⟨i,c,b,Q1 a⟩
  ·exact⟨i,c,b,QV a⟩
theorem ia:ii l ⟨#[36]⟩=dA l:=by
 have b:(⟨#[36]⟩:ByteArray).size=1:=rfl
 have a:∀i,i+1<=l.size->(rO l ⟨#[36]⟩ i=(aF l i==36)):=fun i c=>by
  have e:(l.extract i (i+1)).toList=[l[i]'(by omega)]:=by
   apply UN
   ·rw[RZ];simp;omega
   ·intro n j f
    simp only[List.length_cons,List.length_nil]at f;have g:n=0:=by omega
    simp only[ByteArray.toList_eq,ByteArray.data_extract,Array.getElem_toList,Array.getElem_extract];subst g;rfl
  unfold rO;rw[b,e,bP l i (by omega)];have d:(⟨#[36]⟩:ByteArray).toList=[36]:=by rw[RZ]
  rw[d,SA];simp only[beq_iff_eq,List.cons.injEq,and_true]
  constructor
  ·intro h;rw[h];rfl
  ·intro h;exact UInt8.toNat_inj.1 (by rw[show(l[i]'(by omega)).toNat=36 by omega];rfl)
 unfold ii dA;rw[b,SA,RC,RC]
 constructor
 ·rintro ⟨i,c,h⟩
  rw[Rg,Sx]at h;rw[a i h.1]at h;exact⟨i,Ra.2 (by omega),h.2⟩
 ·rintro ⟨i,c,h⟩
  have c:=Ra.1 c;exact⟨i,Ra.2 (by omega),by rw[Rg,Sx,a i (by omega)];exact⟨by omega,h⟩⟩
theorem tu(c:b<=x.size):(aI (bC x b).1=true->((bC x b).1.text.toList == [])=false/\(bC x b).1.rule=0)/\(aI (bC x b).1=false->(bC x b).1.text=⟨#[]⟩/\((bC x b).1.fin=true->(bC x b).1.rule=0)):=by
 have a:=AB x b c;have d:=rQ x (skip x b) a.2;unfold bC;simp only
 split
 ·exact⟨fun h=>by simp[aI]at h,fun _=>⟨rfl,fun h=>by cases h⟩⟩
 ·split
  ·exact⟨fun h=>by simp[aI]at h,fun _=>⟨rfl,fun _=>rfl⟩⟩
  ·next f g =>
   refine⟨fun _=>⟨?_,rfl⟩,fun h=>by simp[aI]at h⟩
   have i:(x.extract (skip x b) (cG x (skip x b))).size=cG x (skip x b)-skip x b:=by
    rw[Tw];omega
   cases e:((x.extract (skip x b) (cG x (skip x b))).toList == [])
   ·rfl
   ·have e:(x.extract (skip x b) (cG x (skip x b))).toList=[]:=by simpa using e
    have:=congrArg List.length e;rw[RZ]at this;have j:cG x (skip x b)-skip x b=0∨x.size-skip x b=0:=by simpa using this
    omega
theorem KE(f:Nat):∀k,k<=l.size->l.size-k+1<=f ->
  bQ true (mS x l k)=(if aI (aW l k).1=true then bQ false (mS x l (aW l k).2) else [lH x l (aW l k).1]):=by
 induction f with
 | zero=>intro k _ h;omega
 | succ f o =>
  intro k i r;have j:=gq l k i;obtain⟨p,q⟩:=tu l k i
  cases a:aI (bC l k).1
  ·obtain⟨d,e⟩:=q a
   rw[j7 x l k a]
   cases b:(bC l k).1.fin
   ·have n:((bC l k).1.rule==0)=false:=by
     unfold aI at a;rw[b]at a;simpa using a
    rw[uE l k a b,a,QT (by simp),bQ,QW (by exact n)];rw[bQ]
   ·rw[sx l k a b,QT (by simp[aI]),bQ,QT (by simp[lH,e b]),QT (by simp[lH,Dw,d]),QW (by simp[lH,Dw,d]),bQ]
    rfl
  ·obtain⟨d,e⟩:=p a
   have m:=j.2.2 a;rw[lE x l k i a]
   cases c:((bC l k).1.text.toList == [36,41])
   ·cases g:kE (bC l k).1.text
    ·rw[vS l k i a c g,bQ,QT (by simp[lH,e]),QT (by simp only[lH,Dw];rw[c];simp),QT (by simp only[lH,Dw];rw[d];simp),QT (by rw[<-uB];simp only[lH];rw[g];simp)]
     exact o _ j.2.1 (by omega)
    ·rw[sw l k a c g,QT (by simp[aI]),bQ,QT (by simp[lH,e]),QT (by simp only[lH,Dw];rw[c];simp),QT (by simp only[lH,Dw];rw[d];simp),QW (by rw[<-uB];exact g)]
     rfl
   ·rw[qN l k a c,QW a,bQ,QT (by simp[lH,e]),QW (by simp only[lH,Dw];exact c)]
theorem G6(f:Nat):∀k,k<=l.size->l.size-k+1<=f->bQ false (mS x l k)=lZ x l k:=by
 induction f with
 | zero=>intro k _ h;omega
 | succ f j =>
  intro k d q;have i:=gq l k d;obtain⟨r,o⟩:=tu l k d
  cases b:aI (bC l k).1
  ·obtain⟨m,p⟩:=o b
   have a:=rG l k (Q1 b);rw[j7 x l k b,j5 x l k (by rw[a];exact b),a,bQ,QT (by simp[lH,Dw,m]),bQ]
  ·have n:=i.2.2 b
   rw[lE x l k d b]
   cases e:((bC l k).1.text.toList == [36,40])
   ·have a:=rG l k (QV e)
    rw[j6 x l k d (by rw[a];exact b),a,bQ,QT (by simp only[lH,Dw];rw[e];simp),j _ i.2.1 (by omega)]
   ·have g:=i9 l (bC l k).2 i.2.1
    rw[bQ,QW (by simp only[lH,Dw];exact e),KE x l _ _ i.2.1 (QR _)]
    cases c:aI (aW l (bC l k).2).1
    ·have a:=uM l k b e c
     rw[QT (by simp),j5 x l k (by rw[a];exact c),a]
    ·have a:=Gx l k d b e c
     rw[QW rfl,j _ g.2 (by omega)];exact(Fq x l k _ d g.2 a).symm
theorem zn(a:Fs)(k:Nat):qV a k=lZ (aE a k) (ak a k) 0:=by
 unfold qV;rw[FM];exact G6 _ _ _ 0 (Ro _) (QR _)
theorem fI(h:b<L.length):tS (L++y) b=tS L b:=by
 unfold tS;rw[QQ,QQ,Q7 h]
theorem oV:tS (y++[z3]) y.length=z3.s:=by
 unfold tS;rw[QQ,Q5 (QR _),RY];rfl
theorem Ae(h:b+1<L.length):ew (L++y) b=ew L b:=by
 unfold ew;rw[fI L y b (by omega),fI L y (b+1) h,Q0];have a:decide (L.length+y.length<=b+1)=false:=by simp;omega
 have c:decide (L.length<=b+1)=false:=by simp;omega
 rw[a,c]
theorem IA(d:N<=b)(c:b<L.length)(a:bS (tS L b)=true):ew (L++y) N=ew L N:=by
 by_cases e:N=b
 ·subst e
  unfold ew;rw[fI L y N c,(kM a).1];simp
 ·exact Ae L y N (by omega)
theorem wH(i:Nat)(c:i<=L.length):eO (L++y) i=eO L i:=by
 induction i with
 | zero=>rfl
 | succ i b =>
  rw[eO,eO,b (by omega),fI L y i (by omega)]
  cases a:bS (tS L i)
  ·rfl
  ·rw[IA L y _ i (LK L i) (by omega) a]
theorem EH(k:Nat):∃M,(eO y (b+k)).1=(eO y b).1++M/\∀m∈M,b<m.z:=by
 induction k with
 | zero=>exact⟨[],by simp,by simp⟩
 | succ k e =>
  obtain⟨M,a,c⟩:=e;rw[show b+(k+1)=(b+k)+1 by omega,eO]
  split
  ·refine⟨M++[⟨(eO y (b+k)).2,b+k+1,(ew y (eO y (b+k)).2).2,(ew y (eO y (b+k)).2).1⟩],by simp only[a,List.append_assoc],fun m d=>?_⟩
   rcases Rr.1 d with h | h
   ·exact c m h
   ·rw[Q9.1 h];show b<b+k+1;omega
  ·exact⟨M,a,c⟩
theorem zl:∃M,aj (L++y)=aj L++M/\∀m∈M,L.length<m.z:=by
 obtain⟨M,a,b⟩:=EH (L++y) L.length y.length;refine⟨M,?_,b⟩;unfold aj;rw[Q0,a,wH L y _ (QR _)]
def fA(T:List Tk):Nat:=(eO T T.length).2
theorem EL:fA y=kz (aj y) (aj y).length:=(fw y).fr
theorem oR:aj (y++[z3])=(if bS z3.s=true then aj y++[⟨fA y,y.length+1,(ew (y++[z3]) (fA y)).2,(ew (y++[z3]) (fA y)).1⟩] else aj y)/\fA (y++[z3])=(if bS z3.s=true then y.length+1 else fA y):=by
 unfold aj fA;rw[Q0,Rp,Rs,eO,wH y [z3] y.length (QR _),oV]
 split <;> exact⟨rfl,rfl⟩
theorem jL(h:b<z5.length):au (z5++k) b=au z5 b:=by
 unfold au;rw[QQ,QQ,Q7 h]
theorem Bf(h:b<=z5.length):kz (z5++k) b=kz z5 b:=by
 unfold kz
 split
 ·rw[jL z5 k (b-1) (by omega)]
 ·rfl
theorem Ga(S M:List Sm)(h:∀m∈M,b<m.z):nt b (S++M)=nt b S:=by
 induction S with
 | nil =>
  cases M with
  | nil=>rfl
  | cons m M =>
   have:=h m (by simp)
   show(if m.z<=b then nt b M+1 else 0)=0
   rw[QT (by omega)]
 | cons s S a=>rw[Ti,nt,nt,a]
theorem rj(h:b<=z5.length):aV (z5++k) N b=aV z5 N b:=by
 unfold aV
 by_cases a:N<=z5.length
 ·rw[Sg a,So (by rw[RT];omega)]
 ·rw[show b-N=0 by omega];simp
theorem lp(h:b<=z5.length):bb (z5++k) b=bb z5 b:=by
 unfold bb;rw[So h]
theorem yk(L M:List Tk)(h:∃u∈L,mM u.s=true):ke (L++M)=ke L:=by
 induction L with
 | nil=>obtain⟨u,b,-⟩:=h;cases b
 | cons a L e =>
  rw[Ti,ke,ke]
  split
  ·rfl
  ·next d =>
   rw[e];obtain⟨u,b,c⟩:=h
   rcases Rj.1 b with rfl | b
   ·exact absurd c d
   ·exact⟨u,b,c⟩
theorem JX(c:cU o H):∃u∈o.drop H,mM u.s=true:=by
 obtain⟨e,d,b,a⟩:=c;refine⟨o[e],?_,?_⟩
 ·rw[List.mem_iff_getElem?]
  exact⟨e-H,by rw[SV,show H+(e-H)=e by omega,QP b]⟩
 ·unfold tS at a
  rw[QQ,QP b]at a;exact a
theorem sg(a:cU L b):bu (L++y) b=bu L b:=by
 have c:b<=L.length:=by obtain⟨e,d,f,-⟩:=a;omega
 unfold bu;rw[Sg c,yk _ _ (JX a)]
theorem JW(f:cU L b):cU (L++y) b:=by
 obtain⟨e,a,c,d⟩:=f;exact⟨e,a,by rw[Q0];omega,by rw[fI L y e c];exact d⟩
theorem lm(h:∀j,j<H->z6 j=y0 j):(List.range H).any z6=(List.range H).any y0:=by
 rw[SA,RC,RC]
 constructor
 ·rintro ⟨j,a,b⟩;exact⟨j,a,by rw[<-h j (Ra.1 a)];exact b⟩
 ·rintro ⟨j,a,b⟩;exact⟨j,a,by rw[h j (Ra.1 a)];exact b⟩
theorem wb{l:List Nat}{q:Nat->Bool}(h:∀j∈l,z6 j=q j):l.find? z6=l.find? q:=by
 induction l with
 | nil=>rfl
 | cons a l c =>
  rw[List.find?_cons,List.find?_cons,h a (by simp),c (fun j b=>h j (by simp[b]))]
section
variable {T U:List Tk} {S M:List Sm} {n:Nat}
theorem vT(c:n<=S.length)(b:∀j,j<n->((au S j).k.toList==s.toList)=true->cU T (au S j).h):jq (T++U) (S++M) s x n y2=jq T S s x n y2:=by
 unfold jq;refine lm (fun j a=>?_);unfold pG;rw[jL S M j (by omega),rj S M j n c]
 cases h:((au S j).k.toList==s.toList)
 ·rfl
 ·rw[sg T U _ (b j a h)]
theorem tN(a:il T S n):eF (T++U) (S++M) l n=eF T S l n:=vT _ l _ a.m (by rw[nR.1];exact a.c)
theorem GR(a:il T S n):kZ (T++U) (S++M) l n=kZ T S l n:=vT _ l _ a.m (by rw[nR.2];exact a.v)
theorem yK(h:r.a<T.length):bG (T++U) r=bG T r:=by
 unfold bG;rw[fI T U r.a h]
theorem sP(c:il T S n):bE (T++U) (S++M) l n=bE T S l n:=by
 unfold bE
 rw[wb (q:=qL T S l) (fun j b=>by
  have b:=Ra.1 b;have:=c.m;unfold qL;rw[jL S M j (by omega),yK _ (c.a j b)])]
theorem zm(a:il T S n):jC (T++U) (S++M) l n=jC T S l n:=by
 unfold jC;rw[sP l a,tN l a,vT _ l _ a.m (by rw[nR.2];exact a.v)]
theorem Il(b:il T S n)(c:l8 T S n):gg (T++U) (S++M) l n=gg T S l n:=by
 unfold gg
 rw[wb (q:=tV T S l n) (fun j a=>by
  have a:=Ra.1 a;have:=b.m;unfold tV;rw[jL S M j (by omega),rj S M j n b.m]
  cases h:((au S j).k.toList == [36,102])
  ·rfl
  ·rw[fI T U _ (c j a h)])]
theorem IV(a:il T S n):jW (T++U) (S++M) x n y2 z=jW T S x n y2 z:=by
 unfold jW;rw[zm x a,sP x a,tN x a,GR x a]
theorem Fo(a:il T S n)(b:l8 T S n):jm (T++U) (S++M) s x n z=jm T S s x n z:=by
 unfold jm;rw[tN x a,GR x a,Il x a b]
theorem CR(a:il T S n)(b:l8 T S n):lW (T++U) (S++M) s x n z=lW T S s x n z:=by
 unfold lW;rw[IV x _ z a,Fo s x z a b]
theorem yB(a:il T S n):dw (T++U) (S++M) l n=dw T S l n:=by
 unfold dw;rw[lp S M n a.m,zm l a]
end
theorem F0(a:N<=b)(c:b<=L.length):fa (L++y) N b=fa L N b:=by
 unfold fa;rw[Sg (by omega),So (by rw[RT];omega)]
theorem vP(f:L.length<=100000)(i:Nat)(c:i<L.length)(a:∀j,j<i->bh L (aj L) j=0):bh (L++y) (aj (L++y)) i=bh L (aj L) i:=by
 obtain⟨b,h⟩:=Ot L f i c a;obtain⟨M,d,l⟩:=zl L y;rw[d];generalize aj L=S at *;have g:i8 (S++M) i=i8 S i:=Ga i S M (fun m k=>by have:=l m k;omega);have n:=KM S i;unfold bh;rw[g,Bf S M _ b.m,fI L y i c]
 by_cases e:i=kz S (i8 S i)
 ·rw[QW e,QW e,yB _ b]
 ·rw[QT e,QT e,Ae L y _ (by omega)]
  split
  ·rfl
  ·next o =>
   rw[CR _ _ _ b h,F0 L y _ i (by omega) (by omega)]
theorem rm(b:L.length<=100000)(h:∀j,j<L.length->bh L (aj L) j=0):∀j,j<L.length->bh (L++y) (aj (L++y)) j=0:=fun j a=>by
 rw[vP L y b j a (fun q c=>h q (by omega))];exact h j a
def uH(o:Int)(L:List Sm):Int:=L.foldl (fun o s=>aO o s.k) o
theorem yn(c:Int)(k:ByteArray):aO (y1+c) k=aO y1 k+c:=by
 unfold aO
 split <;> split <;> omega
theorem BJ(L:List Sm):∀o c,uH (o+c) L=uH o L+c:=by
 induction L with
 | nil=>intro o c;rfl
 | cons s L a =>
  intro o c
  show uH (aO (o+c) s.k) L=uH (aO o s.k) L+c
  rw[yn,a]
theorem GX(L:List Sm)(s:Sm):∀o,qE o (L++[s])=(qE o L&&decide (0<=uH o (L++[s]))):=by
 induction L with
 | nil =>
  intro o
  show(if aO o s.k<0 then false else qE (aO o s.k) [])=(qE o []&&decide (0<=aO o s.k))
  simp only[qE]
  by_cases h:aO o s.k<0
  ·rw[QW h];simp;omega
  ·rw[QT h];simp;omega
 | cons a L b =>
  intro o;rw[Ti,qE,qE]
  by_cases h:aO o a.k<0
  ·rw[QW h,QW h];rfl
  ·rw[QT h,QT h,b];rfl
theorem Ed(c:N<=b):uH 0 ((k.drop N).take (b-N))=bb k b-bb k N:=by
 have e:k.take b=k.take N++(k.drop N).take (b-N):=by
  rw[show b=N+(b-N) by omega,List.take_add];simp
 have a:bb k b=uH (bb k N) ((k.drop N).take (b-N)):=by
  unfold bb uH;rw[e,Sw]
 have:=BJ ((k.drop N).take (b-N)) 0 (bb k N);rw[Int.zero_add]at this;omega
theorem rW(c:N<=b)(d:b<k.length):aV k N (b+1)=(aV k N b&&decide (bb k N<=bb k (b+1))):=by
 have e:(k.drop N).take (b+1-N)=(k.drop N).take (b-N)++[k[b]]:=by
  rw[show b+1-N=(b-N)+1 by omega,RG (by rw[RT];omega),TI]
  congr 3;omega
 have a:=Ed k N (b+1) (by omega);unfold aV;rw[e]at a ⊢;rw[GX,a]
 congr 1
 rw[decide_eq_decide];omega
theorem A9:aV k b b=true:=by
 unfold aV;rw[RY,Tq,qE]
theorem DE(n:Nat)(g:b<=n)(i:n<=k.length)(h:aV k b n=true):∀m,b<=m->m<=n->bb k b<=bb k m:=by
 induction n with
 | zero =>
  intro m a d;have e:m=b:=by omega
  rw[e];exact TJ _
 | succ n f =>
  intro m a d
  by_cases e:b=n+1
  ·have e:m=b:=by omega
   rw[e];exact TJ _
  ·rw[rW k b n (by omega) (by omega),Rg,Sx]at h
   by_cases c:m=n+1
   ·rw[c];exact h.2
   ·exact f (by omega) (by omega) h.1 m a (by omega)
def j8(S:List Sm)(n:Nat):List Nat:=(List.range n).filter (fun j=>aV S j n)
theorem io(h:q∈j8 w H):q<H:=Ra.1 (RH.1 h).1
theorem DD(e:b<=k.length):(j8 k b).Pairwise (fun a c=>bb k a<=bb k c):=by
 have h:=(Ui (n:=b)).filter (fun j=>aV k j b);refine h.imp_of_mem (fun {a c} ha d hab=>?_);have d:=io d;exact DE k a b (by omega) e (RH.1 ha).2 c (by omega) (by omega)
theorem Fi{f:Nat->Int}(l:List Nat)(h:l.Pairwise (fun a b=>f a<=f b)):l=l.filter (fun j=>decide (f j<=y1))++l.filter (fun j=>!decide (f j<=y1)):=by
 induction l with
 | nil=>rfl
 | cons a l c =>
  obtain⟨g,i⟩:=List.pairwise_cons.1 h;have c:=c i
  by_cases d:f a<=y1
  ·rw[SG (by simpa using d),Ss (by simpa using d),Ti,<-c]
  ·have e:l.filter (fun j=>decide (f j<=y1))=[]:=by
    rw[Th];intro b k;have:=g b k;simp;omega
   rw[Ss (by simpa using d),SG (by simpa using d),e];rw[e]at c;rw[Uu]at c ⊢;rw[<-c]
theorem dW(h:∀j,j<H->z6 j=y0 j):(List.range H).filter z6=(List.range H).filter y0 :=
 Uj (fun j a=>h j (Ra.1 a))
theorem hZ:bb (k++[r]) (k.length+1)=aO (bb k k.length) r.k:=by
 rw[uG (k++[r]) k.length (by simp),lp k [r] _ (QR _)]
 congr 2
 simp
theorem ri:j8 (k++[r]) (k.length+1)=(j8 k k.length).filter (fun j=>decide (bb k j<=aO (bb k k.length) r.k))++(if 0<=aO 0 r.k then [k.length] else []):=by
 unfold j8;rw[R6,RV,UG]
 congr 1
 ·refine dW (fun j a=>?_)
  rw[rW (k++[r]) j k.length (by omega) (by simp),rj k [r] j _ (QR _),lp k [r] j (by omega),hZ,U5]
 ·have e:aV (k++[r]) k.length (k.length+1)=decide (0<=aO 0 r.k):=by
   rw[rW (k++[r]) k.length k.length (QR _) (by simp),A9,lp k [r] _ (QR _),hZ,Sv,decide_eq_decide];have:=yn 0 (bb k k.length) r.k;rw[Int.zero_add]at this;omega
  by_cases h:0<=aO 0 r.k
  ·rw[QW h,SG (by rw[e];simpa using h)];rfl
  ·rw[QT h,Ss (by rw[e];simpa using h)];rfl
theorem GY(a:H<=w.length)(h:q∈j8 w H):bb w q<=bb w H:=by
 have b:=io h;exact DE w q H (by omega) a (RH.1 h).2 H (by omega) (QR _)
structure rU(F:Nat->List ByteArray)(S:List Sm)(L:List ByteArray)(B:List Nat):Prop where
 l:L=(j8 S S.length).flatMap F
 b:(B.length:Int)=bb S S.length
 o:∀i,i<B.length->B[i]?=some (((j8 S S.length).filter (fun j=>decide (bb S j<=(i:Int)))).flatMap F).length
theorem dx{l:List Nat}{G:Nat->List ByteArray}(h:∀j∈l,z0 j=G j):l.flatMap z0=l.flatMap G:=by
 induction l with
 | nil=>rfl
 | cons a l c=>rw[RI,RI,h a (by simp),c (fun j b=>h j (by simp[b]))]
theorem rt(b:H<=w.length)(c:bb w H<=A):(j8 w H).filter (fun j=>decide (bb w j<=A))=j8 w H :=
 List.filter_eq_self.2 (fun j a=>by have:=GY b a;simp;omega)
theorem cg:(k++[r]).length=k.length+1:=by simp
theorem pg(b:H<=w.length)(c:Int):(j8 w H).filter (fun j=>decide (bb (w++[z2]) j<=c))=(j8 w H).filter (fun j=>decide (bb w j<=c)) :=
 Uj (fun j a=>by rw[lp w [z2] j (by have:=io a;omega)])
theorem rU.norm(h:rU z0 w m g)(s:Sm)(c:∀o,aO o s.k=o)(d:∀j,j<w.length->z4 j=z0 j):rU z4 (w++[s]) (m++z4 w.length) g:=by
 have e:=ri w s;rw[c,c,QW (TJ _),rt (QR _) (TJ _)]at e;have f:=h.b;refine⟨?_,?_,fun i n=>?_⟩
 ·rw[cg,e,Sh,h.l,dx (fun j a=>d j (io a))];simp
 ·rw[cg,hZ,c];exact f
 ·rw[cg,e,RV,pg (QR _),Ss (by rw[lp w [s] _ (QR _)];simp;omega),List.filter_nil,Rl,dx (fun j a=>d j (io (RH.1 a).1))]
  exact h.o i n
theorem rU.push(h:rU z0 w m g)(s:Sm)(d:∀o,aO o s.k=o+1)(q:∀j,j<w.length->z4 j=z0 j)(n:z4 w.length=[]):rU z4 (w++[s]) m (g++[m.length]):=by
 have e:=ri w s;rw[d,d,QW (by omega),rt (QR _) (by omega)]at e;have u:=h.b
 have f:∀p:Nat->Bool,([w.length].filter p).flatMap z4=[]:=fun p=>by
  rw[List.flatMap_eq_nil_iff];intro j c;have:=Q9.1 (RH.1 c).1;rw[this];exact n
 refine⟨?_,?_,fun i t=>?_⟩
 ·rw[cg,e,Sh,h.l,dx (fun j c=>q j (io c))];simp[n]
 ·rw[cg,hZ,d];simp;omega
 ·rw[cg,e,RV,pg (QR _),Sh,f,Rl,dx (fun j c=>q j (io (RH.1 c).1))]
  simp only[List.length_append,List.length_cons,List.length_nil]at t
  by_cases a:i<g.length
  ·rw[Q7 a];exact h.o i a
  ·have r:i=g.length:=by omega
   rw[r,Q5 (QR _),RY,rt (QR _) (by omega),<-h.l];rfl
theorem rU.pop(h:rU z0 w m (g++[H]))(s:Sm)(d:∀o,aO o s.k=o-1)(n:∀j,j<w.length->z4 j=z0 j):rU z4 (w++[s]) (m.take H) g:=by
 have e:=ri w s;rw[d,d,QT (by omega),Rl]at e;have u:=h.b;simp only[List.length_append,List.length_cons,List.length_nil]at u;have v:bb w w.length-1=(g.length:Int):=by omega
 rw[v]at e;have c:=h.o g.length (by simp);rw[Q5 (QR _),RY]at c;have c:H=(((j8 w w.length).filter (fun j=>decide (bb w j<=(g.length:Int)))).flatMap z0).length:=by simpa using c
 refine⟨?_,?_,fun i x=>?_⟩
 ·rw[cg,e,dx (G:=z0) (fun j a=>n j (io (RH.1 a).1))]
  have q:=h.l;rw[Fi (f:=bb w) (g.length:Int) (j8 w w.length) (DD w _ (QR _)),Sh]at q;rw[q,c,So (QR _),RK]
 ·rw[cg,hZ,d];omega
 ·rw[cg,e,UG]
  have r:(j8 w w.length).filter (fun j=>decide (bb (w++[s]) j<=(i:Int))&&decide (bb w j<=(g.length:Int)))=(j8 w w.length).filter (fun j=>decide (bb w j<=(i:Int))) :=
   Uj (fun j a=>by
    rw[lp w [s] j (by have:=io a;omega)]
    by_cases p:bb w j<=(i:Int)
    ·have t:bb w j<=(g.length:Int):=by omega
     simp[p,t]
    ·simp[p])
  rw[r,dx (G:=z0) (fun j a=>n j (io (RH.1 a).1))];have:=h.o i (by simp;omega);rw[Q7 x]at this;exact this
def Dk(T:List Tk)(S:List Sm)(j:Nat):List ByteArray:=if((au S j).k.toList == [36,118])=true then bu T (au S j).h else []
def Hw(T:List Tk)(S:List Sm)(j:Nat):List ByteArray:=if((au S j).k.toList == [36,99])=true then bu T (au S j).h else []
def Gg(T:List Tk)(S:List Sm)(j:Nat):List ByteArray:=if((au S j).k.toList == [36,102])=true then [tS T ((au S j).h+1)] else []
def LD(T:List Tk)(S:List Sm)(j:Nat):List ByteArray:=if((bG T (au S j)).toList == [])=true then [] else [bG T (au S j)]
theorem nO(F:Nat->List ByteArray)(l:List Nat)(x:ByteArray):aJ (l.flatMap F) x=l.any (fun j=>aJ (F j) x):=by
 unfold aJ;rw[List.any_flatMap]
theorem iJ:aJ [] l=false:=rfl
theorem wm(m:List ByteArray)(x:ByteArray):aJ (z++m) x=(aJ z x||aJ m x):=by
 unfold aJ;rw[UW]
theorem ru:aJ [x] l=(x.toList==l.toList):=by simp[aJ]
theorem uy(q:Nat->Bool):(z7.filter zb).any q=z7.any (fun j=>zb j&&q j):=by
 rw[List.any_filter]
theorem GS:kZ y k x b=aJ ((j8 k b).flatMap (Dk y k)) x:=by
 rw[nO];unfold j8;rw[uy];unfold kZ jq;refine lm (fun j a=>?_);unfold pG Dk;rw[nR.2]
 cases h:((au k j).k.toList == [36,118])
 ·rw[QT (by simp),iJ];simp
 ·rw[QW rfl];simp[Bool.and_comm]
theorem tO:eF y k x b=aJ ((List.range b).flatMap (Hw y k)) x:=by
 rw[nO];unfold eF jq;refine lm (fun j a=>?_);unfold pG Hw;rw[nR.1]
 cases h:((au k j).k.toList == [36,99])
 ·rw[QT (by simp),iJ];simp
 ·rw[QW rfl];simp
theorem DG:jq y k ⟨#[36,118]⟩ x b false=aJ ((List.range b).flatMap (Dk y k)) x:=by
 rw[nO];unfold jq;refine lm (fun j a=>?_);unfold pG Dk;rw[nR.2]
 cases h:((au k j).k.toList == [36,118])
 ·rw[QT (by simp),iJ];simp
 ·rw[QW rfl];simp
theorem Ns:(match z7.find? zb with | some j=>(j:Int) | none=>-1)=-1 ↔ z7.any zb=false:=by
 cases h:z7.find? zb with
 | none=>simp only[true_iff];rw[TH];rw[Sk]at h;exact h
 | some j =>
  have a:=Tm h;have b:=Rz h;have c:z7.any zb=true:=RC.2 ⟨j,b,a⟩;rw[c];simp only[Bool.true_eq_false,iff_false];intro d;have:(0:Int)<=(j:Int):=by omega
  omega
theorem Gl:decide (0<=(match z7.find? zb with | some j=>(j:Int) | none=>-1))=z7.any zb:=by
 cases h:z7.find? zb with
 | none =>
  have:=(Ns z7 zb).1 (by rw[h]);rw[this];rfl
 | some j =>
  have a:z7.any zb=true:=RC.2 ⟨j,Rz h,Tm h⟩;rw[a];simp
theorem sQ:decide (0<=bE y k x b)=aJ ((List.range b).flatMap (LD y k)) x:=by
 rw[nO];unfold bE;refine(Gl (List.range b) (qL y k x)).trans ?_;refine lm (fun j a=>?_);unfold qL LD
 cases h:((bG y (au k j)).toList == [])
 ·rw[QT (by simp),ru];simp
 ·rw[QW rfl,iJ];simp
theorem Im:decide (0<=gg y k x b)=aJ ((j8 k b).flatMap (Gg y k)) x:=by
 rw[nO];unfold j8;rw[uy];unfold gg;refine(Gl (List.range b) (tV y k x b)).trans ?_;refine lm (fun j a=>?_);unfold tV Gg
 cases h:((au k j).k.toList == [36,102])
 ·rw[QT (by simp),iJ];simp
 ·rw[QW rfl,ru];simp[Bool.and_comm]
theorem Ao(d:y.length<=100000)(b:∀j,j<y.length->bh y (aj y) j=0):il y (aj y) (aj y).length/\l8 y (aj y) (aj y).length:=by
 have p:=fw y;have f:(aj y).length<=y.length:=oG y y.length;generalize aj y=S at *;have c:=fun j (a:j<S.length)=>Dq p j a (fun q _ e=>b q (by have:=(p.s j a).2;omega))
 refine⟨⟨QR _,by omega,d,fun j a=>(c j a).1,fun j a=>(c j a).2.1,fun j a=>?_⟩,fun j a=>(c j a).2.2⟩;have:=(p.s j a).1.lt;have:=(p.s j a).2;omega
structure rR(T:List Tk)(S:List Sm)(d:Db):Prop where
 con:d.U8=(List.range S.length).flatMap (Hw T S)
 var:∀x,aJ d.U9 x=aJ ((List.range S.length).flatMap (Dk T S)) x
 act:rU (Dk T S) S d.Vf (d.blocks.map (·.1))
 typ:rU (Gg T S) S d.Vi (d.blocks.map (·.2))
def jH(T:List Tk)(S:List Sm):List ByteArray:=(List.range S.length).flatMap (LD T S)
def eZ(l:List UInt8)(k:Int):Prop:=(l=[36,99]/\k=7)∨(l=[36,118]/\k=8)∨(l=[36,100]/\k=1)∨(l=[36,102]/\k=2)∨(l=[36,101]/\k=3)∨(l=[36,97]/\k=4)∨(l=[36,112]/\k=5)
theorem eZ.c:eZ [36,99] 7:=by simp[eZ]
theorem eZ.v:eZ [36,118] 8:=by simp[eZ]
theorem eZ.d:eZ [36,100] 1:=by simp[eZ]
theorem eZ.f:eZ [36,102] 2:=by simp[eZ]
theorem eZ.e:eZ [36,101] 3:=by simp[eZ]
theorem eZ.a:eZ [36,97] 4:=by simp[eZ]
theorem eZ.p:eZ [36,112] 5:=by simp[eZ]
def kB(y:ByteArray):Bool:=!(y.toList == [36,61])
def tF(T:List Tk)(d:Db):Prop :=
 (fA T=T.length/\d.kind=0/\d.U6=[]/\d.Va=false/\d.Ve=jH T (aj T)) ∨
 (fA T+1=T.length/\d.kind=6/\d.U6=[]/\d.Va=false/\d.Ve=jH T (aj T)++[tS T (fA T)]/\((tS T (fA T)).toList == [])=false/\ii (tS T (fA T)) ⟨#[36]⟩=false) ∨
 ∃(key:ByteArray) (head:Nat) (B:List ByteArray),ew T (fA T)=(key,head)/\fA T<head/\head<=T.length/\eZ key.toList d.kind/\fa T head T.length=B/\d.Va=aJ B ⟨#[36,61]⟩/\d.U6=B.takeWhile kB/\(d.Va=true->d.kind=5/\d.U6≠[]) /\
  d.Ve=jH T (aj T)++(if(aC key||aG key)=true then [tS T (fA T)] else [])/\((aC key||aG key)=true->((tS T (fA T)).toList == [])=false)
theorem tF.none(a:fA o=o.length)(b:D.kind=0)(c:D.U6=[])(d:D.Va=false)(e:D.Ve=jH o (aj o)):tF o D:=Q1 ⟨a,b,c,d,e⟩
theorem tF.lab(a:fA o+1=o.length)(b:D.kind=6)(c:D.U6=[])(d:D.Va=false)(e:D.Ve=jH o (aj o)++[tS o (fA o)])(f:((tS o (fA o)).toList == [])=false)(g:ii (tS o (fA o)) ⟨#[36]⟩=false):tF o D:=QV (Q1 ⟨a,b,c,d,e,f,g⟩)
theorem tF.body(c:ew o (fA o)=(x,b))(d:fA o<b)(e:b<=o.length)(f:eZ x.toList D.kind)(g:fa o b o.length=z)(h:D.Va=aJ z ⟨#[36,61]⟩)(i:D.U6=z.takeWhile kB)(j:D.Va=true->D.kind=5/\D.U6≠[])(k:D.Ve=jH o (aj o)++(if(aC x||aG x)=true then [tS o (fA o)] else []))(a:(aC x||aG x)=true->((tS o (fA o)).toList == [])=false):tF o D:=QV (QV ⟨x,b,z,c,d,e,f,g,h,i,j,k,a⟩)
theorem rU.congr(h:rU z0 w m g)(c:∀j,j<w.length->z4 j=z0 j):rU z4 w m g :=
 ⟨by rw[dx (G:=z0) (fun j a=>c j (io a))];exact h.l,h.b,fun i d=>by rw[dx (G:=z0) (fun j a=>c j (io (RH.1 a).1))];exact h.o i d⟩
section
variable {T U:List Tk} {S M:List Sm}
theorem oZ(b:il T S S.length)(j:Nat)(a:j<S.length):Dk (T++U) (S++M) j=Dk T S j:=by
 unfold Dk;rw[jL S M j a]
 split
 ·next h=>rw[sg T U _ (b.v j a h)]
 ·rfl
theorem vl(b:il T S S.length)(j:Nat)(a:j<S.length):Hw (T++U) (S++M) j=Hw T S j:=by
 unfold Hw;rw[jL S M j a]
 split
 ·next h=>rw[sg T U _ (b.c j a h)]
 ·rfl
theorem vm(b:l8 T S S.length)(j:Nat)(a:j<S.length):Gg (T++U) (S++M) j=Gg T S j:=by
 unfold Gg;rw[jL S M j a]
 split
 ·next h=>rw[fI T U _ (b j a h)]
 ·rfl
theorem Gs(c:il T S S.length)(j:Nat)(b:j<S.length):LD (T++U) (S++M) j=LD T S j:=by
 unfold LD;rw[jL S M j b,yK _ (c.a j b)]
end
theorem oL(h:∀j,j<H->z4 j=z0 j):(List.range H).flatMap z4=(List.range H).flatMap z0:=dx (fun j a=>h j (Ra.1 a))
theorem fe(h:∀j,j<H->z4 j=z0 j):(List.range (H+1)).flatMap z4=(List.range H).flatMap z0++z4 H:=by
 rw[R6,Sh,oL h];simp
theorem qn(b:il o w w.length):jH (o++z1) w=jH o w:=by
 unfold jH;exact oL (fun j a=>by have:=Gs (U:=z1) (M:=[]) b j a;rw[Rl]at this;exact this)
theorem tZ(b:il o w w.length):jH (o++z1) (w++[r])=jH o w++LD (o++z1) (w++[r]) w.length:=by
 unfold jH;rw[cg];exact fe (fun j a=>Gs b j a)
theorem rR.same(h:rR o w D)(d:il o w w.length)(l:l8 o w w.length)(e:zt.U8=D.U8)(f:zt.U9=D.U9)(g:zt.Vf=D.Vf)(i:zt.Vi=D.Vi)(b:zt.blocks=D.blocks):rR (o++z1) w zt:=by
 have c:∀j,j<w.length->Dk (o++z1) w j=Dk o w j:=fun j a=>by have:=oZ (U:=z1) (M:=[]) d j a;rw[Rl]at this;exact this
 have k:∀j,j<w.length->Hw (o++z1) w j=Hw o w j:=fun j a=>by have:=vl (U:=z1) (M:=[]) d j a;rw[Rl]at this;exact this
 have m:∀j,j<w.length->Gg (o++z1) w j=Gg o w j:=fun j a=>by have:=vm (U:=z1) (M:=[]) l j a;rw[Rl]at this;exact this
 exact⟨by rw[e,oL k];exact h.con,fun x=>by rw[f,oL c];exact h.var x,by rw[g,b];exact h.act.congr c,by rw[i,b];exact h.typ.congr m⟩
theorem lX:au (k++[r]) k.length=r:=uk k r
theorem rR.close(h:rR o w D)(b:il o w w.length)(m:l8 o w w.length)(s:Sm)(d:∀e,aO e s.k=e)(f:zt.U8=D.U8++Hw (o++z1) (w++[s]) w.length)(g:∀x,aJ zt.U9 x=(aJ D.U9 x||aJ (Dk (o++z1) (w++[s]) w.length) x))(i:zt.Vf=D.Vf++Dk (o++z1) (w++[s]) w.length)(l:zt.Vi=D.Vi++Gg (o++z1) (w++[s]) w.length)(c:zt.blocks=D.blocks):rR (o++z1) (w++[s]) zt :=
 ⟨by rw[cg,fe (fun j a=>vl b j a),<-h.con];exact f,fun x=>by rw[cg,fe (fun j a=>oZ b j a),wm,<-h.var];exact g x,
  by rw[i,c];exact h.act.norm s d (fun j a=>oZ b j a),by rw[l,c];exact h.typ.norm s d (fun j a=>vm m j a)⟩
theorem Bk(g:y.length<=100000)(a:∀j,j<y.length->bh y (aj y) j=0):bh (y++[z3]) (aj (y++[z3])) y.length =
  if y.length=fA y then dw y (aj y) z3.s (aj y).length
  else if y.length<(ew (y++[z3]) (fA y)).2 then(if(aC z3.s||aG z3.s)=true then 0 else 14)
  else lW y (aj y) (ew (y++[z3]) (fA y)).1 z3.s (aj y).length (fa y (ew (y++[z3]) (fA y)).2 y.length):=by
 obtain⟨d,i⟩:=Ao y g a;obtain⟨M,f,k⟩:=zl y [z3];have p:=fw y;rw[f,EL];generalize aj y=S at *
 have h:i8 (S++M) y.length=S.length:=by
  unfold i8;rw[Ga y.length S M k];exact KY _ S S.length (fun q b=>⟨au S q,GN S q b,(p.s q b).2⟩) (fun s c=>by rw[Rx (QR _)]at c;cases c)
 unfold bh;rw[h,Bf S M _ (QR _),oV]
 by_cases e:y.length=kz S S.length
 ·rw[QW e,QW e,yB _ d]
 ·rw[QT e,QT e]
  split
  ·rfl
  ·next l=>rw[CR _ _ _ d i,F0 y [z3] _ _ (by omega) (QR _)]
theorem De(h:rR o w D)(a:D.Ve=jH o w)(x:ByteArray):jC o w x w.length=dK D x:=by
 unfold jC dK;rw[sQ,tO,DG,<-h.con,<-h.var,a,TF];rfl
theorem J0(h:rR o w D)(a:D.Ve=jH o w)(x:ByteArray):(decide (0<=bE o w x w.length)||(eF o w x w.length||kZ o w x w.length))=dX D x:=by
 unfold dX;rw[sQ,tO,GS,<-h.con,<-h.act.l,a,TF];rfl
theorem Bv(h:rR o w D):bb w w.length=(D.blocks.length:Int):=by
 have:=h.act.b;rw[Ri]at this;exact this.symm
theorem rr(h:i.toList=u)(o:Int):aO o i=if(u == [36,125])=true then(if(u == [36,123])=true then o+1 else o)-1 else(if(u == [36,123])=true then o+1 else o):=by
 unfold aO;rw[h]
theorem kc{k:ByteArray}(h:k.toList=u):aC k=((u == [36,97])||(u == [36,112]))/\aG k=((u == [36,102])||(u == [36,101]))/\bS k=((u == [36,46])||(u == [36,123])||(u == [36,125])):=by
 unfold aC aG bS;rw[h];exact⟨rfl,rfl,rfl⟩
theorem Fm(h:i.toList=u):ii i ⟨#[36]⟩=ii ⟨u.toArray⟩ ⟨#[36]⟩:=by
 rw[oD (x:=i) (l:=u) (by rw[h];simp)]
theorem eZ.dep(h:eZ i.toList A):(∀o,aO o i=o)/\ii i ⟨#[36]⟩=true/\bS i=false:=by
 generalize hl:i.toList=l at h;have a:=fun o=>rr hl o
 have b:=Fm hl;have c:=(kc hl).2.2
 (rcases h with ⟨rfl,rfl⟩ | ⟨rfl,rfl⟩ | ⟨rfl,rfl⟩ | ⟨rfl,rfl⟩ | ⟨rfl,rfl⟩ | ⟨rfl,rfl⟩ | ⟨rfl,rfl⟩) <;> exact⟨fun o=>a o,b.trans (by decide +kernel),c⟩
section
variable {T:List Tk} {t:Tk} {d:Db}
theorem Cy(b:fA T=T.length)(a:ii t.s ⟨#[36]⟩=true):ew (T++[t]) (fA T)=(t.s,T.length+1):=by
 unfold ew;rw[b,oV,a];simp
theorem sO(a:ew T (fA T)=(i,H))(f:fA T<H)(g:H<=T.length)(d:eZ i.toList A):ew (T++[t]) (fA T)=(i,H):=by
 rw[<-a]
 by_cases h:fA T+1<T.length
 ·exact Ae T [t] _ h
 ·have e:ew T (fA T)=(tS T (fA T),fA T+1):=by
   unfold ew;rw[QW (by simp;right;omega)]
  rw[a]at e;have c:i=tS T (fA T):=congrArg Prod.fst e;have b:=d.dep.2.1;rw[c]at b;unfold ew;rw[fI T [t] _ (by omega),b];simp
theorem m8(T:List Tk)(h:Nat):fa T h T.length=(T.drop h).map (·.s):=by
 unfold fa;rw[Tu (by rw[RT];exact QR _)]
theorem KL(t:Tk)(h:Nat)(a:h<=T.length):fa (T++[t]) h (T++[t]).length=fa T h T.length++[t.s]:=by
 rw[m8,m8,Sg a];simp
theorem vO(L:List Tk)(t:Tk)(c:∀u∈L,(u.s.toList == [36,46])=false)(e:(t.s.toList == [36,46])=true):ke (L++[t])=(L.map (·.s)).takeWhile kB:=by
 induction L with
 | nil=>rw[Uu,ke,QW (tA e)];rfl
 | cons a L g =>
  have d:=c a (by simp);rw[Ti,ke,Tp]
  cases b:(a.s.toList == [36,61])
  ·rw[QT (by unfold mM;rw[d,b];simp),SN (by unfold kB;rw[b];rfl),g (fun u f=>c u (by simp[f]))]
  ·rw[QW (by unfold mM;rw[b];rfl),Tl (by unfold kB;rw[b];simp)]
theorem yU(T:List Tk)(h:Nat)(a:fA T<=h):∀u∈T.drop h,bS u.s=false:=by
 intro u c;obtain⟨q,b,e⟩:=R0 c;rw[RT]at b;have:=(fw T).n (h+q) (by unfold fA at a;omega) (by omega);rw[TI]at e;unfold tS at this;rw[QQ,QP (by omega)]at this;rw[<-e];exact this
theorem Lo(h:aJ z ⟨#[36,61]⟩=false):∀y∈z,kB y=true:=by
 intro y a;unfold aJ at h;rw[TH]at h;have:=h y a;have e:(⟨#[36,61]⟩:ByteArray).toList=[36,61]:=by decide +kernel
 rw[e]at this;unfold kB;simpa using this
theorem Ka(B:List ByteArray)(h:∀y∈B,kB y=true):B.takeWhile kB=B:=by
 induction B with
 | nil=>rfl
 | cons a B c=>rw[SN (h a (by simp)),c (fun y b=>h y (by simp[b]))]
theorem vp(h:aJ z ⟨#[36,61]⟩=false):z.takeWhile kB=z:=Ka z (Lo z h)
theorem MF(B:List ByteArray)(y:ByteArray)(h:aJ B ⟨#[36,61]⟩=true):(B++[y]).takeWhile kB=B.takeWhile kB:=by
 have e:(⟨#[36,61]⟩:ByteArray).toList=[36,61]:=by decide +kernel
 induction B with
 | nil=>cases h
 | cons a B d =>
  rw[Ti]
  cases b:(a.toList == [36,61])
  ·have c:aJ B ⟨#[36,61]⟩=true:=by
    unfold aJ at h ⊢;rw[TE,e,b,Sp]at h;rw[e];exact h
   rw[SN (by unfold kB;rw[b];rfl),SN (by unfold kB;rw[b];rfl),d c]
  ·rw[Tl (by unfold kB;rw[b];simp),Tl (by unfold kB;rw[b];simp)]
end
theorem ci{m:List UInt8}(h:(i.toList==u)=true):(i.toList==m)=(u==m):=by
 have:i.toList=u:=by simpa using h
 rw[this]
theorem dd(h:(i.toList==u)=true):i.toList=u:=by simpa using h
section
variable {T:List Tk} {t:Tk} {d:Db}
theorem qo(d:fA T=T.length)(c:bS t.s=true):aj (T++[t])=aj T++[⟨fA T,T.length+1,T.length+1,t.s⟩]/\fA (T++[t])=(T++[t]).length:=by
 obtain⟨a,b⟩:=oR T t;rw[QW c,Cy d (kM c).1]at a;rw[QW c]at b;exact⟨a,by rw[b];simp⟩
theorem mF(c:bS t.s=false):aj (T++[t])=aj T/\fA (T++[t])=fA T:=by
 obtain⟨a,b⟩:=oR T t;rw[QT (by rw[c];simp)]at a b;exact⟨a,b⟩
theorem OF{S:List Sm}{s:Sm}{U:List Tk}(a:(s.k.toList == [36,118])=false)(b:(s.k.toList == [36,99])=false)(c:(s.k.toList == [36,102])=false):Dk U (S++[s]) S.length=[]/\Hw U (S++[s]) S.length=[]/\Gg U (S++[s]) S.length=[]:=by
 unfold Dk Hw Gg;rw[lX,a,b,c];exact⟨rfl,rfl,rfl⟩
theorem Ep{S:List Sm}{s:Sm}{U:List Tk}(h:(aC s.k||aG s.k)=false):LD U (S++[s]) S.length=[]:=by
 have e:bG U s=⟨#[]⟩:=by unfold bG;rw[h,QT (by simp)]
 unfold LD;rw[lX,e,QW oI]
theorem NE(h:(aC z2.k||aG z2.k)=true)(b:((tS o z2.a).toList == [])=false):LD o (w++[z2]) w.length=[tS o z2.a]:=by
 have e:bG o z2=tS o z2.a:=by unfold bG;rw[h,QW rfl]
 unfold LD;rw[lX,e,QT (by rw[b];simp)]
theorem Fl(w:il T (aj T) (aj T).length)(W:l8 T (aj T) (aj T).length)(I:rR T (aj T) d)(N:fA T=T.length)(hk:d.kind=0)(G:d.U6=[])(B:d.Va=false)(P:d.Ve=jH T (aj T))(hx:(t.s.toList == [])=false) :
  dw T (aj T) t.s (aj T).length=(av d t.s).1/\((av d t.s).1=0->rR (T++[t]) (aj (T++[t])) (av d t.s).2/\tF (T++[t]) (av d t.s).2):=by
 have F:=Bv I;have ac:=De I P t.s
 -- a keyword of a statement without a ad
 have H:∀{n:Int} {V:Db},eZ t.s.toList n->(aC t.s||aG t.s)=false->V={ d with kind:=n }->rR (T++[t]) (aj (T++[t])) V/\tF (T++[t]) V:=fun {n V} u J e=>by
  obtain⟨y,E⟩:=mF (T:=T) (t:=t) u.dep.2.2;have O:ew (T++[t]) (fA (T++[t]))=(t.s,T.length+1):=by rw[E];exact Cy N u.dep.2.1
  have hB:fa (T++[t]) (T.length+1) (T++[t]).length=[]:=by rw[m8];simp
  subst e;refine⟨by rw[y];exact I.same w W rfl rfl rfl rfl rfl,tF.body t.s (T.length+1) [] O (by rw[E];omega) (by simp) u hB (by rw[iJ];exact B) G (fun h=>by rw[B]at h;cases h) ?_ (fun h=>by rw[J]at h;cases h)⟩;rw[y,J,QT (by simp),Rl,qn w];exact P
 cases b:(t.s.toList == [36,123])
 ·cases f:(t.s.toList == [36,125])
  ·cases l:(t.s.toList == [36,99])
   ·cases g:(t.s.toList == [36,118])
    ·cases m:(t.s.toList == [36,100])
     ·cases z:(aC t.s||aG t.s)
      ·have h7:(t.s.toList == [36,102])=false/\(t.s.toList == [36,101])=false/\(t.s.toList == [36,97])=false/\(t.s.toList == [36,112])=false:=by
        unfold aC aG at z;simp only[Bool.or_eq_false_iff]at z;exact⟨z.2.1,z.2.2,z.1.1,z.1.2⟩
       obtain⟨g1,g2,g3,g4⟩:=h7
       have k:av d t.s=bI d t.s:=by
        unfold av;rw[b,f,l,g,m,g1,g2,g3,g4];simp
       have i:dw T (aj T) t.s (aj T).length=if ii t.s ⟨#[36]⟩=true then 8 else if gG t.s=false then 12 else if dK d t.s=true then 13 else 0:=by
        unfold dw;rw[b,f,l,g,m,z,ac];simp
       rw[k,i,ia];unfold bI
       cases k1:dA t.s
       ·cases k2:gG t.s
        ·exact⟨rfl,fun h=>by simp at h⟩
        ·cases k3:dK d t.s
         ·refine⟨rfl,fun _=>?_⟩
          have C:bS t.s=false:=by
           cases L:bS t.s
           ·rfl
           ·have:=(kM L).1
            rw[ia,k1]at this;cases this
          obtain⟨y,E⟩:=mF (T:=T) (t:=t) C;have Y:tS (T++[t]) (fA (T++[t]))=t.s:=by rw[E,N,oV]
          simp only[Bool.false_eq_true,if_false];exact⟨by rw[y];exact I.same w W rfl rfl rfl rfl rfl,tF.lab (by rw[E,N];simp) rfl G B (by rw[Y,y,qn w,<-P];rfl) (by rw[Y];exact hx) (by rw[Y,ia];exact k1)⟩
         ·exact⟨rfl,fun h=>by simp at h⟩
       ·exact⟨rfl,fun h=>by simp at h⟩
      ·have k:av d t.s=(11,d):=by
        unfold av;rw[b,f,l,g,m];unfold aC aG at z;rw[QT (by simp),QT (by simp),QT (by simp),QT (by simp),QT (by simp),QW];simp only[Bool.or_eq_true]at z
        rcases z with (h | h) | (h | h)
        ·exact QV (QV (Q1 h))
        ·exact QV (QV (QV h))
        ·exact Q1 h
        ·exact QV (Q1 h)
       have i:dw T (aj T) t.s (aj T).length=11:=by
        unfold dw;rw[b,f,l,g,m,z];simp
       rw[k,i];exact⟨rfl,fun h=>by cases h⟩
     ·have u:=eZ.d
      rw[<-dd m]at u
      have k:av d t.s=(0,{ d with kind:=1 }):=by
       unfold av;rw[b,f,l,g,m];simp
      have i:dw T (aj T) t.s (aj T).length=0:=by
       unfold dw;rw[m];simp
      rw[k,i];exact⟨rfl,fun _=>H u (by rw[(kc (dd m)).1,(kc (dd m)).2.1];decide) rfl⟩
    ·have u:=eZ.v
     rw[<-dd g]at u
     have k:av d t.s=(0,{ d with kind:=8 }):=by
      unfold av;rw[b,f,l,g];simp
     have i:dw T (aj T) t.s (aj T).length=0:=by
      unfold dw;rw[g];simp
     rw[k,i];exact⟨rfl,fun _=>H u (by rw[(kc (dd g)).1,(kc (dd g)).2.1];decide) rfl⟩
   ·have u:=eZ.c
    rw[<-dd l]at u;have g:(t.s.toList == [36,118])=false:=by rw[ci l];decide
    have m:(t.s.toList == [36,100])=false:=by rw[ci l];decide
    by_cases A:0<d.blocks.length
    ·have k:av d t.s=(10,d):=by
      unfold av;rw[b,f,l];simp[A]
     have i:dw T (aj T) t.s (aj T).length=10:=by
      unfold dw;rw[b,f,l,g,m,F,SM (show(0:Int)<(d.blocks.length:Int) by omega)];simp
     rw[k,i];exact⟨rfl,fun h=>by cases h⟩
    ·have k:av d t.s=(0,{ d with kind:=7 }):=by
      unfold av;rw[b,f,l,QT (by simp),QT (by simp),QW rfl,QT A]
     have i:dw T (aj T) t.s (aj T).length=0:=by
      unfold dw;rw[b,f,l,g,m,F,Sb (show ¬(0:Int)<(d.blocks.length:Int) by omega)];simp
     rw[k,i];exact⟨rfl,fun _=>H u (by rw[(kc (dd l)).1,(kc (dd l)).2.1];decide) rfl⟩
  ·have g:(t.s.toList == [36,118])=false:=by rw[ci f];decide
   have m:(t.s.toList == [36,100])=false:=by rw[ci f];decide
   have L:bS t.s=true:=by rw[(kc (dd f)).2.2];decide
   have k:av d t.s=(match d.blocks.getLast? with | none=>(9,d) | some p=>(0,cw d p)):=by
    unfold av;rw[b,f,QT (by simp),QW rfl];rfl
   cases A:d.blocks.getLast? with
   | none =>
    have K:d.blocks.length=0:=by rw[List.getLast?_eq_none_iff]at A;rw[A];rfl
    have i:dw T (aj T) t.s (aj T).length=9:=by
     unfold dw;rw[b,f,g,m,F,K];simp
    rw[k,i,A];exact⟨rfl,fun h=>by cases h⟩
   | some q =>
    have C:d.blocks≠[]:=fun e=>by rw[e]at A;cases A
    have Z:d.blocks=d.blocks.dropLast++[q]:=by
     have:=Uv C;rw[Ta C]at A
     cases A
     exact this.symm
    have K:0<d.blocks.length:=TU.2 C
    have i:dw T (aj T) t.s (aj T).length=0:=by
     unfold dw;rw[b,f,g,m,F,show((d.blocks.length:Int)==0)=false by simp;omega];simp
    rw[k,i,A];refine⟨rfl,fun _=>?_⟩;obtain⟨y,E⟩:=qo (T:=T) (t:=t) N L;have Q:∀o,aO o t.s=o-1:=fun o=>by rw[rr (dd f)];rfl
    obtain⟨X,n2,n3⟩:=OF (S:=aj T) (s:=⟨fA T,T.length+1,T.length+1,t.s⟩) (U:=T++[t]) g (by show(t.s.toList==_)=false;rw[ci f];decide) (by show(t.s.toList==_)=false;rw[ci f];decide);have hn:=Ep (S:=aj T) (s:=⟨fA T,T.length+1,T.length+1,t.s⟩) (U:=T++[t]) (by show(aC t.s||aG t.s)=false;rw[(kc (dd f)).1,(kc (dd f)).2.1];decide);have J:=I.act;have hy:=I.typ;rw[Z,Ry]at J hy
    have M:(cw d q).U8=d.U8/\(cw d q).U9=d.U9/\(cw d q).Vf=d.Vf.take q.1/\(cw d q).Vi=d.Vi.take q.2/\(cw d q).blocks=d.blocks.dropLast/\(cw d q).kind=d.kind/\(cw d q).U6=d.U6/\(cw d q).Va=d.Va/\(cw d q).Ve=d.Ve:=by
     unfold cw dq
     split <;> exact⟨rfl,rfl,rfl,rfl,rfl,rfl,rfl,rfl,rfl⟩
    obtain⟨d1,d2,d3,d4,d5,d6,d7,d8,d9⟩:=M;simp only;rw[y];refine⟨⟨?_,fun x=>?_,?_,?_⟩,tF.none E (by rw[d6];exact hk) (by rw[d7];exact G) (by rw[d8];exact B) ?_⟩
    ·rw[d1,cg,fe (fun j r=>vl w j r),n2,Rl];exact I.con
    ·rw[d2,cg,fe (fun j r=>oZ w j r),X,Rl];exact I.var x
    ·rw[d3,d5];exact J.pop ⟨fA T,T.length+1,T.length+1,t.s⟩ Q (fun j r=>oZ w j r)
    ·rw[d4,d5];exact hy.pop ⟨fA T,T.length+1,T.length+1,t.s⟩ Q (fun j r=>vm W j r)
    ·rw[d9,y,tZ _ w,hn,Rl];exact P
 ·have g:(t.s.toList == [36,118])=false:=by rw[ci b];decide
  have L:bS t.s=true:=by rw[(kc (dd b)).2.2];decide
  have k:av d t.s=(0,{ d with blocks:=d.blocks++[(d.Vf.length,d.Vi.length)],rbl:=d.rbl++[d.Vn.length] }):=by
   unfold av;rw[b,QW rfl]
  have i:dw T (aj T) t.s (aj T).length=0:=by
   unfold dw;rw[b];simp
  rw[k,i];refine⟨rfl,fun _=>?_⟩;obtain⟨y,E⟩:=qo (T:=T) (t:=t) N L;have Q:∀o,aO o t.s=o+1:=fun o=>by rw[rr (dd b)];rfl
  obtain⟨X,n2,n3⟩:=OF (S:=aj T) (s:=⟨fA T,T.length+1,T.length+1,t.s⟩) (U:=T++[t]) g (by show(t.s.toList==_)=false;rw[ci b];decide) (by show(t.s.toList==_)=false;rw[ci b];decide);have hn:=Ep (S:=aj T) (s:=⟨fA T,T.length+1,T.length+1,t.s⟩) (U:=T++[t]) (by show(aC t.s||aG t.s)=false;rw[(kc (dd b)).1,(kc (dd b)).2.1];decide);simp only;rw[y];refine⟨⟨?_,fun x=>?_,?_,?_⟩,tF.none E hk G B ?_⟩
  ·rw[cg,fe (fun j r=>vl w j r),n2,Rl];exact I.con
  ·rw[cg,fe (fun j r=>oZ w j r),X,Rl];exact I.var x
  ·simp only[List.map_append,List.map_cons,List.map_nil]
   exact I.act.push ⟨fA T,T.length+1,T.length+1,t.s⟩ Q (fun j r=>oZ w j r) X
  ·simp only[List.map_append,List.map_cons,List.map_nil]
   exact I.typ.push ⟨fA T,T.length+1,T.length+1,t.s⟩ Q (fun j r=>vm W j r) n3
  ·rw[y,tZ _ w,hn,Rl];exact P
theorem Mv(z:il T (aj T) (aj T).length)(A:l8 T (aj T) (aj T).length)(I:rR T (aj T) d)(y:fA T+1=T.length)(v:d.U6=[])(k:d.Va=false)(D:d.Ve=jH T (aj T)++[tS T (fA T)])(B:((tS T (fA T)).toList == [])=false)(u:ii (tS T (fA T)) ⟨#[36]⟩=false) :
  ew (T++[t]) (fA T)=(t.s,T.length+1)/\(if(aC t.s||aG t.s)=true then(0:Int) else 14)=(aH d t.s).1/\((aH d t.s).1=0->rR (T++[t]) (aj (T++[t])) (aH d t.s).2/\tF (T++[t]) (aH d t.s).2):=by
 have i:ew (T++[t]) (fA T)=(t.s,T.length+1):=by
  unfold ew;rw[fI T [t] _ (by omega),u,QT (by simp;omega),y,oV,<-y]
 have g:∀{n:Int},eZ t.s.toList n->(aC t.s||aG t.s)=true->rR (T++[t]) (aj (T++[t])) { d with kind:=n }/\tF (T++[t]) { d with kind:=n }:=fun {n} c b=>by
  obtain⟨w,l⟩:=mF (T:=T) (t:=t) c.dep.2.2;have C:fa (T++[t]) (T.length+1) (T++[t]).length=[]:=by rw[m8];simp
  have x:tS (T++[t]) (fA (T++[t]))=tS T (fA T):=by rw[l,fI T [t] _ (by omega)]
  refine⟨by rw[w];exact I.same z A rfl rfl rfl rfl rfl,tF.body t.s (T.length+1) [] (by rw[l];exact i) (by rw[l];omega) (by simp) c C (by rw[iJ];exact k) v (fun h=>by rw[show({ d with kind:=n }:Db).Va=d.Va from rfl,k]at h;cases h) ?_ (fun _=>by rw[x];exact B)⟩;rw[w,b,QW rfl,qn z,x];exact D
 refine⟨i,?_⟩;unfold aH
 cases m:(t.s.toList == [36,102])
 ·cases o:(t.s.toList == [36,101])
  ·cases q:(t.s.toList == [36,97])
   ·cases r:(t.s.toList == [36,112])
    ·have b:(aC t.s||aG t.s)=false:=by unfold aC aG;rw[m,o,q,r];rfl
     rw[b];exact⟨rfl,fun h=>by simp at h⟩
    ·have b:(aC t.s||aG t.s)=true:=by unfold aC aG;rw[r];simp
     have c:=eZ.p;rw[<-dd r]at c;rw[b];exact⟨rfl,fun _=>g c b⟩
   ·have b:(aC t.s||aG t.s)=true:=by unfold aC aG;rw[q];simp
    have c:=eZ.a;rw[<-dd q]at c;rw[b];exact⟨rfl,fun _=>g c b⟩
  ·have b:(aC t.s||aG t.s)=true:=by unfold aC aG;rw[o];simp
   have c:=eZ.e;rw[<-dd o]at c;rw[b];exact⟨rfl,fun _=>g c b⟩
 ·have b:(aC t.s||aG t.s)=true:=by unfold aC aG;rw[m];simp
  have c:=eZ.f;rw[<-dd m]at c;rw[b];exact⟨rfl,fun _=>g c b⟩
end
theorem BS(l:List ByteArray):∀v x,aJ (dR v l) x=(aJ v x||aJ l x):=by
 induction l with
 | nil=>intro v x;rw[iJ,Sz];rfl
 | cons a l f =>
  intro v x;have e:dR v (a :: l)=dR (if aJ v a=true then v else v++[a]) l:=rfl;have b:aJ (a :: l) x=((a.toList==x.toList)||aJ l x):=rfl;rw[e,f,b]
  by_cases h:aJ v a=true
  ·rw[QW h]
   cases c:(a.toList==x.toList)
   ·rw[Sp]
   ·have d:aJ v x=true:=by
     have:a.toList=x.toList:=by simpa using c
     unfold aJ at h ⊢;rw[<-this];exact h
    rw[d];rfl
  ·rw[QT h,wm,ru,TF]
section
variable {T:List Tk} {t:Tk} {d:Db}
theorem qA(b:eZ u d.kind)(x:ByteArray)(p:Pl):aX d x p =
  if(x.toList == [36,46])=true then lL d p
  else if(x.toList == [36,61])=true/\(d.kind==5)=true/\d.Va=false then b7 d
  else if dA x=true then(8,d)
  else if d.Va=true then(0,{ d with Vh:=d.Vh++[(x,p)] })
  else if(aZ d x==0)=true then(0,{ d with U6:=d.U6++[x] })
  else(aZ d x,d):=by
 have a:(d.kind==0)=false/\(d.kind==6)=false:=by
  generalize d.kind=k at b
  (rcases b with ⟨rfl,rfl⟩ | ⟨rfl,rfl⟩ | ⟨rfl,rfl⟩ | ⟨rfl,rfl⟩ | ⟨rfl,rfl⟩ | ⟨rfl,rfl⟩ | ⟨rfl,rfl⟩) <;> exact⟨by decide,by decide⟩
 unfold aX;rw[a.1,a.2,QT (by simp),QT (by simp)]
theorem O8(a:eZ u A):(A==5)=(u == [36,112]):=by(rcases a with ⟨rfl,rfl⟩ | ⟨rfl,rfl⟩ | ⟨rfl,rfl⟩ | ⟨rfl,rfl⟩ | ⟨rfl,rfl⟩ | ⟨rfl,rfl⟩ | ⟨rfl,rfl⟩) <;> decide
theorem KT(I:rR T (aj T) d)(j:eZ i.toList d.kind)(c:d.U6=m)(n:(aC i||aG i)=false->d.Ve=jH T (aj T))(x:ByteArray) :
  (if((i.toList == [36,99])||(i.toList == [36,118]))=true then jW T (aj T) x (aj T).length (i.toList == [36,99]) m else jm T (aj T) i x (aj T).length m)=aZ d x:=by
 have b:=fun h=>De I (n h) x
 have a:=fun h=>J0 I (n h) x
 have e:kZ T (aj T) x (aj T).length=aJ d.Vf x:=by rw[GS,<-I.act.l]
 have f:eF T (aj T) x (aj T).length=aJ d.U8 x:=by rw[tO,<-I.con]
 have g:decide (0<=gg T (aj T) x (aj T).length)=aJ d.Vi x:=by rw[Im,<-I.typ.l]
 obtain⟨o,p,-⟩:=kc (k:=i) rfl;unfold jW jm aZ iY iZ fC fy;rw[c]
 have q:(gg T (aj T) x (aj T).length<0) ↔ aJ d.Vi x=false:=by
  rw[<-g];simp
 have r:(0<=gg T (aj T) x (aj T).length) ↔ aJ d.Vi x=true:=by
  rw[<-g];simp
 generalize hkl:i.toList=l at *;generalize d.kind=k at j ⊢;simp only[e,f,q,r];rw[o,p]at b a
 rcases j with ⟨rfl,rfl⟩ | ⟨rfl,rfl⟩ | ⟨rfl,rfl⟩ | ⟨rfl,rfl⟩ | ⟨rfl,rfl⟩ | ⟨rfl,rfl⟩ | ⟨rfl,rfl⟩
 ·have b:=b (by decide)
  rw[b];simp only[show(([36,99]:List UInt8) == [36,99])=true from by decide,show((7:Int)==7)=true from rfl,Bool.true_or,if_true,Bool.true_and,Bool.not_true,Bool.false_and,Bool.false_eq_true,if_false]
  cases aJ m x <;> cases dK d x <;> simp
 ·have a:=a (by decide)
  rw[e,f]at a;rw[a];simp only[show(([36,118]:List UInt8) == [36,99])=false from by decide,show(([36,118]:List UInt8) == [36,118])=true from by decide,show((8:Int)==7)=false from rfl,show((8:Int)==8)=true from rfl,Bool.or_true,if_true,Bool.false_and,Bool.not_false,Bool.true_and,Bool.false_eq_true,if_false]
  cases aJ m x <;> cases dX d x <;> simp
 ·simp only[show(([36,100]:List UInt8) == [36,99])=false from by decide,show(([36,100]:List UInt8) == [36,118])=false from by decide,show(([36,100]:List UInt8) == [36,100])=true from by decide,show((1:Int)==7)=false from rfl,show((1:Int)==8)=false from rfl,show((1:Int)==1)=true from rfl,Bool.or_false,if_true,Bool.false_eq_true,if_false]
 ·simp only[show(([36,102]:List UInt8) == [36,99])=false from by decide,show(([36,102]:List UInt8) == [36,118])=false from by decide,show(([36,102]:List UInt8) == [36,100])=false from by decide,show(([36,102]:List UInt8) == [36,102])=true from by decide,show((2:Int)==7)=false from rfl,show((2:Int)==8)=false from rfl,show((2:Int)==1)=false from rfl,show((2:Int)==2)=true from rfl,Bool.or_false,if_true,Bool.false_eq_true,if_false,beq_iff_eq]
 ·simp only[show(([36,101]:List UInt8) == [36,99])=false from by decide,show(([36,101]:List UInt8) == [36,118])=false from by decide,show(([36,101]:List UInt8) == [36,100])=false from by decide,show(([36,101]:List UInt8) == [36,102])=false from by decide,show((3:Int)==7)=false from rfl,show((3:Int)==8)=false from rfl,show((3:Int)==1)=false from rfl,show((3:Int)==2)=false from rfl,Bool.or_false,Bool.false_eq_true,if_false,beq_iff_eq]
 ·simp only[show(([36,97]:List UInt8) == [36,99])=false from by decide,show(([36,97]:List UInt8) == [36,118])=false from by decide,show(([36,97]:List UInt8) == [36,100])=false from by decide,show(([36,97]:List UInt8) == [36,102])=false from by decide,show((4:Int)==7)=false from rfl,show((4:Int)==8)=false from rfl,show((4:Int)==1)=false from rfl,show((4:Int)==2)=false from rfl,Bool.or_false,Bool.false_eq_true,if_false,beq_iff_eq]
 ·simp only[show(([36,112]:List UInt8) == [36,99])=false from by decide,show(([36,112]:List UInt8) == [36,118])=false from by decide,show(([36,112]:List UInt8) == [36,100])=false from by decide,show(([36,112]:List UInt8) == [36,102])=false from by decide,show((5:Int)==7)=false from rfl,show((5:Int)==8)=false from rfl,show((5:Int)==1)=false from rfl,show((5:Int)==2)=false from rfl,Bool.or_false,Bool.false_eq_true,if_false,beq_iff_eq]
theorem OR(j:eZ i.toList d.kind)(b:d.Va=aJ m ⟨#[36,61]⟩)(e:d.U6=m.takeWhile kB)(c:d.Va=true->d.kind=5/\d.U6≠[])(p:Pl):ip i m=(lL d p).1/\((lL d p).1=0->(lL d p).2={ aY d p with kind:=0,label:=⟨#[]⟩,U6:=[],Va:=false,Vh:=[] }/\(d.kind=2->1<d.U6.length)):=by
 have o:d.Va=false->d.U6=m:=fun h=>by rw[e];exact vp m (by rw[<-b];exact h)
 have q:d.Va=true->0<m.length/\0<d.U6.length:=fun h=>by
  refine⟨?_,TU.2 (c h).2⟩;rw[b]at h
  cases m with
  | nil=>cases h
  | cons a m=>simp
 unfold ip lL l5;rw[<-b];generalize hkl:i.toList=l at *;generalize hkk:d.kind=k at *;clear e b
 cases g:d.Va
 ·rw[o g]
  generalize m.length=r
  (rcases j with ⟨rfl,rfl⟩ | ⟨rfl,rfl⟩ | ⟨rfl,rfl⟩ | ⟨rfl,rfl⟩ | ⟨rfl,rfl⟩ | ⟨rfl,rfl⟩ | ⟨rfl,rfl⟩) <;> simp <;> (repeat' split) <;> simp_all <;> omega
 ·obtain⟨t,u⟩:=q g
  have f:=(c g).1;subst f;generalize m.length=r at *;generalize d.U6.length=s at *
  rcases j with ⟨-,h⟩ | ⟨-,h⟩ | ⟨-,h⟩ | ⟨-,h⟩ | ⟨-,h⟩ | ⟨-,h⟩ | ⟨rfl,-⟩
  all_goals first | (exfalso;revert h;decide) | skip
  simp
  (repeat' split) <;> simp_all <;> omega
end
section
variable {T:List Tk} {t:Tk} {d:Db}
theorem Gu:∀{x:ByteArray},(x.toList == [36,46])=true->bS x=true/\ii x ⟨#[36]⟩=true:=fun {x} h=>by
 rw[(kc (dd h)).2.2,Fm (dd h)];decide +kernel
theorem Fk(ok:il T (aj T) (aj T).length)(fo:l8 T (aj T) (aj T).length)(I:rR T (aj T) d)(hk:ew T (fA T)=(i,H))(P:fA T<H)(Y:H<=T.length)(L:eZ i.toList d.kind)(K:fa T H T.length=m)(V:d.U6=m.takeWhile kB)(S:d.Va=true->d.kind=5/\d.U6≠[])(hl:d.Ve=jH T (aj T)++(if(aC i||aG i)=true then [tS T (fA T)] else []))(h0:(aC i||aG i)=true->((tS T (fA T)).toList == [])=false)(Z:(t.s.toList == [36,46])=true)(p:Pl)(G:d.kind=2->1<d.U6.length)(N:d.Va=false->d.U6=m)(y:D={ aY d p with kind:=0,label:=⟨#[]⟩,U6:=[],Va:=false,Vh:=[] }) :
  rR (T++[t]) (aj (T++[t])) D/\tF (T++[t]) D:=by
 obtain⟨X,-⟩:=Gu Z;obtain⟨B,W⟩:=oR T t;rw[QW X,sO hk P Y L]at B;rw[QW X]at W;simp only at B
 have w:bu (T++[t]) H=d.U6:=by
  unfold bu;rw[Sg Y,vO _ t (fun u hu=>?_) Z,V,<-K,m8];have:=yU T H (by omega) u hu;unfold bS at this;simp only[Bool.or_eq_false_iff]at this;exact this.1.1
 have C:=L.dep.1;obtain⟨s,J⟩:∃s:Sm,s=⟨fA T,T.length+1,H,i⟩:=⟨_,rfl⟩
 rw[<-J]at B;have v:s.k=i:=by rw[J]
 have A:s.h=H:=by rw[J]
 have U:s.a=fA T:=by rw[J]
 have v1:Dk (T++[t]) (aj T++[s]) (aj T).length=if(i.toList == [36,118])=true then d.U6 else []:=by
  unfold Dk;rw[lX,v,A,w]
 have v2:Hw (T++[t]) (aj T++[s]) (aj T).length=if(i.toList == [36,99])=true then d.U6 else []:=by
  unfold Hw;rw[lX,v,A,w]
 have v3:Gg (T++[t]) (aj T++[s]) (aj T).length=if(i.toList == [36,102])=true then [tS (T++[t]) (H+1)] else []:=by
  unfold Gg;rw[lX,v,A]
 have E:jH (T++[t]) (aj T++[s])=d.Ve:=by
  rw[tZ s ok,hl]
  congr 1
  cases M:(aC i||aG i)
  ·rw[QT (by simp)];exact Ep (by rw[v];exact M)
  ·have e:tS (T++[t]) s.a=tS T (fA T):=by rw[U,fI T [t] _ (by omega)]
   rw[QW rfl,<-e];exact NE (by rw[v];exact M) (by rw[e];exact h0 M)
 have R:fA (T++[t])=(T++[t]).length:=by rw[W];simp
 have dv:D.U8=(aY d p).U8/\D.U9=(aY d p).U9/\D.Vf=(aY d p).Vf/\D.Vi=(aY d p).Vi/\D.blocks=(aY d p).blocks/\D.Ve=(aY d p).Ve:=by
  rw[y];exact⟨rfl,rfl,rfl,rfl,rfl,rfl⟩
 obtain⟨b,c,f,g,j,n⟩:=dv;rw[B]
 have r:D.U8=d.U8++(if(i.toList == [36,99])=true then d.U6 else [])->(∀x,aJ D.U9 x=(aJ d.U9 x||aJ (if(i.toList == [36,118])=true then d.U6 else []) x))->D.Vf=d.Vf++(if(i.toList == [36,118])=true then d.U6 else [])->D.Vi=d.Vi++(if(i.toList == [36,102])=true then [tS (T++[t]) (H+1)] else [])->D.blocks=d.blocks->D.Ve=d.Ve->rR (T++[t]) (aj T++[s]) D/\tF (T++[t]) D:=fun g1 g2 g3 g4 g5 g6 =>
  ⟨I.close ok fo s (fun o=>by rw[v];exact C o) (by rw[v2];exact g1) (fun x=>by rw[v1];exact g2 x) (by rw[v1];exact g3) (by rw[v3];exact g4) g5,
   tF.none R (by rw[y]) (by rw[y]) (by rw[y]) (by rw[B,E];exact g6)⟩
 -- the seven keys
 have q:∀k:Int,d.kind=k->(k==7)=false->(k==8)=false->(k==2)=false->aY d p=mY d p:=fun k O e7 e8 e2=>by
  unfold aY mO;rw[O,e7,e8,e2];simp
 generalize hkl:i.toList=l at *;generalize hkk:d.kind=k at *
 rcases L with ⟨rfl,rfl⟩ | ⟨rfl,rfl⟩ | ⟨rfl,rfl⟩ | ⟨rfl,rfl⟩ | ⟨rfl,rfl⟩ | ⟨rfl,rfl⟩ | ⟨rfl,rfl⟩
 ·have e:aY d p={ d with U8:=d.U8++d.U6 }:=by unfold aY;rw[hkk];rfl
  rw[e]at b c f g j n;exact r (by rw[b];rfl) (fun x=>by rw[c];simp[iJ]) (by rw[f];simp) (by rw[g];simp) j n
 ·have e:aY d p=dO d d.U6.length:=by unfold aY;rw[hkk];rfl
  rw[e]at b c f g j n;unfold dO at b c f g j n;exact r (by rw[b];simp) (fun x=>by rw[c];simp only[List.take_length];rw[BS];rfl) (by rw[f];rfl) (by rw[g];simp) j n
 ·have e:=q 1 rfl rfl rfl rfl
  rw[e]at b c f g j n;unfold mY at b c f g j n;exact r (by rw[b];simp) (fun x=>by rw[c];simp[iJ]) (by rw[f];simp) (by rw[g];simp) j n
 ·have G:=G rfl
  have Q:d.Va=false:=by
   cases h:d.Va
   ·rfl
   ·exact absurd (S h).1 (by decide)
  have F:=N Q
  have e:aY d p=mY { d with Vi:=d.Vi++[d.U6.getD 1 ⟨#[]⟩] } p:=by
   unfold aY mO;rw[hkk,QT (by decide),QT (by decide),QW ⟨rfl,G⟩]
  have hg:d.U6.getD 1 ⟨#[]⟩=tS (T++[t]) (H+1):=by
   have z:H+1<T.length:=by
    rw[F,<-K,m8,Ri,RT]at G;omega
   rw[F,<-K,m8,fI T [t] _ z];unfold tS;rw[QQ,QQ,Rq,SV,QP z];rfl
  rw[e]at b c f g j n;unfold mY at b c f g j n;exact r (by rw[b];simp) (fun x=>by rw[c];simp[iJ]) (by rw[f];simp) (by rw[g,hg];rfl) j n
 ·have e:=q 3 rfl rfl rfl rfl
  rw[e]at b c f g j n;unfold mY at b c f g j n;exact r (by rw[b];simp) (fun x=>by rw[c];simp[iJ]) (by rw[f];simp) (by rw[g];simp) j n
 ·have e:=q 4 rfl rfl rfl rfl
  rw[e]at b c f g j n;unfold mY at b c f g j n;exact r (by rw[b];simp) (fun x=>by rw[c];simp[iJ]) (by rw[f];simp) (by rw[g];simp) j n
 ·have e:=q 5 rfl rfl rfl rfl
  rw[e]at b c f g j n;unfold mY at b c f g j n;exact r (by rw[b];simp) (fun x=>by rw[c];simp[iJ]) (by rw[f];simp) (by rw[g];simp) j n
theorem AC(n:il T (aj T) (aj T).length)(x:l8 T (aj T) (aj T).length)(I:rR T (aj T) d)(B:ew T (fA T)=(i,H))(b:fA T<H)(l:H<=T.length)(k:eZ i.toList d.kind)(z:fa T H T.length=m)(C:d.Ve=jH T (aj T)++(if(aC i||aG i)=true then [tS T (fA T)] else []))(y:(aC i||aG i)=true->((tS T (fA T)).toList == [])=false)(A:bS t.s=false)(o:D.U8=d.U8)(p:D.U9=d.U9)(q:D.Vf=d.Vf)(r:D.Vi=d.Vi)(u:D.blocks=d.blocks)(v:D.Ve=d.Ve)(w:D.kind=d.kind)(e:D.Va=aJ (m++[t.s]) ⟨#[36,61]⟩)(g:D.U6=(m++[t.s]).takeWhile kB)(f:D.Va=true->D.kind=5/\D.U6≠[]):rR (T++[t]) (aj (T++[t])) D/\tF (T++[t]) D:=by
 obtain⟨j,c⟩:=mF (T:=T) (t:=t) A;have a:tS (T++[t]) (fA (T++[t]))=tS T (fA T):=by rw[c,fI T [t] _ (by omega)]
 refine⟨by rw[j];exact I.same n x o p q r u,tF.body i H (m++[t.s]) (by rw[c];exact sO B b l k) (by rw[c];exact b) (by simp;omega) (by rw[w];exact k) (by rw[KL t H l,z]) e g f ?_ (fun h=>by rw[a];exact y h)⟩;rw[j,qn n,a,v];exact C
theorem JR(D:il T (aj T) (aj T).length)(u:l8 T (aj T) (aj T).length)(I:rR T (aj T) d)(B:ew T (fA T)=(i,H))(b:fA T<H)(A:H<=T.length)(j:eZ i.toList d.kind)(z:fa T H T.length=m)(a:d.Va=aJ m ⟨#[36,61]⟩)(g:d.U6=m.takeWhile kB)(l:d.Va=true->d.kind=5/\d.U6≠[])(r:d.Ve=jH T (aj T)++(if(aC i||aG i)=true then [tS T (fA T)] else []))(w:(aC i||aG i)=true->((tS T (fA T)).toList == [])=false)(p:Pl) :
  lW T (aj T) i t.s (aj T).length m=(aX d t.s p).1/\((aX d t.s p).1=0->rR (T++[t]) (aj (T++[t])) (aX d t.s p).2/\tF (T++[t]) (aX d t.s p).2):=by
 have k:d.Va=false->d.U6=m:=fun h=>by rw[g];exact vp m (by rw[<-a];exact h)
 have o:(⟨#[36,61]⟩:ByteArray).toList=[36,61]:=by decide +kernel
 rw[qA j];unfold lW
 cases P:(t.s.toList == [36,46])
 ·simp only[Bool.false_eq_true,if_false]
  rw[<-a,<-O8 j]
  cases x:((t.s.toList == [36,61])&&((d.kind==5) && !d.Va))
  ·have F:¬((t.s.toList == [36,61])=true/\(d.kind==5)=true/\d.Va=false):=fun h=>by
    rw[h.1,h.2.1,h.2.2]at x;cases x
   simp only[Bool.false_eq_true,if_false];rw[QT F,ia]
   cases N:dA t.s
   ·have c:bS t.s=false:=by
     cases K:bS t.s
     ·rfl
     ·have:=(kM K).1
      rw[ia,N]at this;cases this
    have L:(t.s.toList == [36,61])=false:=by
     cases K:(t.s.toList == [36,61])
     ·rfl
     ·have e:=Fm (dd K)
      rw[ia,N]at e;exact absurd e (by decide +kernel)
    simp only[Bool.false_eq_true,if_false]
    cases y:d.Va
    ·have C:=k y
     simp only[Bool.false_eq_true,if_false];have Q:=KT I j C (fun h=>by rw[r,QT (by rw[h];simp),Rl]) t.s;rw[Q]
     have f:aJ (m++[t.s]) ⟨#[36,61]⟩=false:=by
      rw[wm,ru,<-a,y,o,L];rfl
     cases G:(aZ d t.s==0)
     ·simp only[Bool.false_eq_true,if_false]
      exact⟨trivial,fun h=>by rw[h]at G;cases G⟩
     ·rw[QW rfl]
      refine⟨by simpa using G,fun _=>AC D u I B b A j z r w c rfl rfl rfl rfl rfl rfl rfl f.symm ?_ (fun h=>Bool.noConfusion h)⟩;rw[vp _ f];simp only;rw[C]
    ·have O:aJ m ⟨#[36,61]⟩=true:=by rw[<-a];exact y
     rw[QW rfl,QW rfl];exact⟨rfl,fun _=>AC D u I B b A j z r w c rfl rfl rfl rfl rfl rfl rfl (by rw[wm,O,Ts]) (by rw[MF _ _ O];exact g) (fun _=>l y)⟩
   ·rw[QW rfl,QW rfl]
    exact⟨rfl,fun h=>by cases h⟩
  ·simp only[Bool.and_eq_true,Bool.not_eq_true']at x
   obtain⟨v,M,E⟩:=x;have C:=k E;rw[QW rfl,QW (show(t.s.toList == [36,61])=true/\(d.kind==5)=true/\d.Va=false from⟨v,M,E⟩)];unfold b7;rw[C]
   by_cases n:m.length=0
   ·rw[QW n,QW n]
    exact⟨rfl,fun h=>by cases h⟩
   ·rw[QT n,QT n]
    have c:bS t.s=false:=by rw[(kc (dd v)).2.2];decide
    have J:aJ m ⟨#[36,61]⟩=false:=by rw[<-a];exact E
    have f:aJ (m++[t.s]) ⟨#[36,61]⟩=true:=by rw[wm,ru,o,v,Bool.or_true]
    refine⟨rfl,fun _=>AC D u I B b A j z r w c rfl rfl rfl rfl rfl rfl rfl f.symm ?_ (fun _=>⟨by simpa using M,?_⟩)⟩
    ·have q:=Lo m J
     rw[List.takeWhile_append_of_pos q,Tl (by unfold kB;rw[v];simp),Rl]
    ·simp only
     intro e;rw[e]at n;exact n rfl
 ·rw[QW rfl,QW rfl]
  obtain⟨R,S⟩:=OR j a g l p;refine⟨R,fun h=>?_⟩;obtain⟨U,V⟩:=S h;exact Fk D u I B b A j z g l r w P p V k U
theorem pH(a:(i.toList == [36,123])=false)(b:(i.toList == [36,125])=false)(o:Int):aO o i=o:=by
 unfold aO;rw[a,b];rfl
theorem zM(h:dA i=false)(o:Int):aO o i=o:=by
 have a:bS i=false:=by
  cases b:bS i
  ·rfl
  ·have:=(kM b).1
   rw[ia,h]at this;cases this
 unfold bS at a;simp only[Bool.or_eq_false_iff]at a;exact pH a.1.2 a.2 o
theorem vU(d:Db)(p:Pl):(aY d p).blocks=d.blocks:=by
 unfold aY dO mY mO
 split
 ·rfl
 ·split
  ·rfl
  ·split <;> rfl
theorem Dc(o:tF T d)(x:ByteArray)(p:Pl)(h:(aX d x p).1=0):((aX d x p).2.blocks.length:Int)=aO (d.blocks.length:Int) x:=by
 rcases o with ⟨v,j,g,f,r⟩ | ⟨v,j,g,f,r,z,y⟩ | ⟨D,n,B,j,w,a,u,F,f,g,A,r,E⟩
 ·have e:aX d x p=av d x:=by unfold aX;rw[j];rfl
  rw[e]at h ⊢
  cases b:(x.toList == [36,123])
  ·cases c:(x.toList == [36,125])
   ·rw[pH b c]
    unfold av bI;rw[b,c,QT (by simp),QT (by simp)]
    repeat' split
    all_goals rfl
   ·have k:av d x=(match d.blocks.getLast? with | none=>(9,d) | some p=>(0,cw d p)):=by
     unfold av;rw[b,c,QT (by simp),QW rfl];rfl
    rw[k]at h ⊢
    cases l:d.blocks.getLast? with
    | none=>rw[l]at h;cases h
    | some q =>
     have s:0<d.blocks.length:=by
      rw[TU];intro e;rw[e]at l;cases l
     have t:(cw d q).blocks=d.blocks.dropLast:=by
      unfold cw dq
      split <;> rfl
     simp only;rw[t,rr (dd c),SF]
     show((d.blocks.length-1:Nat):Int)=(d.blocks.length:Int)-1
     omega
  ·have k:av d x=(0,{ d with blocks:=d.blocks++[(d.Vf.length,d.Vi.length)],rbl:=d.rbl++[d.Vn.length] }):=by
    unfold av;rw[b,QW rfl]
   rw[k,rr (dd b)];simp only[List.length_append,List.length_cons,List.length_nil]
   show((d.blocks.length+(0+1):Nat):Int)=(d.blocks.length:Int)+1
   omega
 ·have e:aX d x p=aH d x:=by unfold aX;rw[j];rfl
  rw[e]at h ⊢
  have C:aO (d.blocks.length:Int) x=(d.blocks.length:Int):=by
   refine pH ?_ ?_ _
   ·cases a:(x.toList == [36,123])
    ·rfl
    ·exfalso
     unfold aH at h;rw[ci a,ci a,ci a,ci a,QT (by decide),QT (by decide),QT (by decide),QT (by decide)]at h
     cases h
   ·cases a:(x.toList == [36,125])
    ·rfl
    ·exfalso
     unfold aH at h;rw[ci a,ci a,ci a,ci a,QT (by decide),QT (by decide),QT (by decide),QT (by decide)]at h
     cases h
  rw[C];unfold aH
  repeat' split
  all_goals rfl
 ·rw[qA u]at h ⊢
  cases b:(x.toList == [36,46])
  ·rw[b,QT (by simp)]at h
   rw[QT (by simp)]
   by_cases c:(x.toList == [36,61])=true/\(d.kind==5)=true/\d.Va=false
   ·rw[QW c,pH (by rw[ci c.1];decide) (by rw[ci c.1];decide)]
    unfold b7
    split <;> rfl
   ·rw[QT c]at h ⊢
    cases m:dA x
    ·rw[zM m,QT (by simp)]
     repeat' split
     all_goals rfl
    ·rw[m,QW rfl]at h;cases h
  ·rw[QW rfl,pH (by rw[ci b];decide) (by rw[ci b];decide)]
   unfold lL
   split
   ·rfl
   ·split
    ·rfl
    ·simp only;rw[vU]
end
def nu(S:List Sm)(j:Nat):Bool:=((au S j).k.toList == [36,100])||((au S j).k.toList == [36,102])||((au S j).k.toList == [36,101])||((au S j).k.toList == [36,97])||((au S j).k.toList == [36,112])
def lV(S:List Sm):List Nat:=(List.range S.length).filter (nu S)
def bR(S:List Sm)(n:Nat):Nat:=(lV S).getD n S.length
theorem Ly(a:b<k.length):nu (k++[r]) b=nu k b:=by
 unfold nu;rw[jL k [r] b a]
theorem nX:lV (k++[r])=lV k++(if nu (k++[r]) k.length=true then [k.length] else []):=by
 unfold lV;rw[cg,R6,RV,dW (fun j a=>Ly k r j a)]
 congr 1
 cases h:nu (k++[r]) k.length <;> simp[h]
theorem N2(h:(lV w)[H]?=some q):q<w.length:=by
 have:=R4 h;exact Ra.1 (RH.1 this).1
theorem N1(h:H<(lV w).length):bR w H<w.length:=by
 have e:(lV w)[H]?=some (bR w H):=by unfold bR;rw[QQ,QP h];rfl
 exact N2 e
theorem Ma:bR k (lV k).length=k.length:=by
 unfold bR;rw[QQ,Rx (QR _)];rfl
theorem L9(h:H<(lV w).length):bR (w++[z2]) H=bR w H:=by
 unfold bR;rw[nX,QQ,QQ,Q7 h,QP h];rfl
theorem nW{S:List Sm}{n a:Nat}(h:n<a)(b:a<(lV S).length):bR S n<bR S a:=by
 have c:(lV S).Pairwise (· < ·):=List.Pairwise.filter _ Ui;have:=UJ.1 c n a (by omega) b h;unfold bR;rw[QQ,QQ,QP b,QP (by omega)];exact this
theorem rV(a:H<=q)(b:q<=w.length):aV (w++[z2]) H q=aV w H q:=by
 unfold aV;rw[Sg (by omega),So (by rw[RT];omega)]
theorem qi(a:H<=w.length):bb (w++[z2]) H=bb w H:=by
 unfold bb;rw[So a]
theorem FW(a:H<=w.length):aV (w++[z2]) H (w.length+1)=(aV w H w.length&&decide (bb w H<=aO (bb w w.length) z2.k)):=by
 rw[rW (w++[z2]) H w.length a (by rw[cg];omega),rV a (QR _),qi a,hZ]
theorem zz(a:H<=w.length)(h:aV w H w.length=true):bb w H<=bb w w.length:=DE w H w.length a (QR _) h w.length a (QR _)
theorem nL(a:H<=w.length)(b:∀o,o<=aO o z2.k):aV (w++[z2]) H (w.length+1)=aV w H w.length:=by
 rw[FW a]
 cases h:aV w H w.length
 ·rfl
 ·have:=zz a h
  have:=b (bb w w.length);simp;omega
structure np(S:List Sm)(l:List St)(rb:List Nat):Prop where
 len:l.length=(lV S).length
 til:∀(n:Nat) (s:St),l[n]?=some s->qP s.kind=false->∀a,n<a->a<=l.length->(s.til==0||decide (a<s.til))=aV S (bR S n) (bR S a)
 le:∀(n:Nat) (s:St),l[n]?=some s->s.til<=l.length
 dep:bb S S.length=(rb.length:Int)
 rbl:∀i,i<rb.length->rb.getD i 0<=l.length/\∀n,n<l.length->aV S (bR S n) S.length=true->(rb.getD i 0<=n ↔ (i:Int)<bb S (bR S n))
theorem np.nil:np [] [] []:=⟨rfl,(fun n s h=>by cases h),(fun n s h=>by cases h),rfl,fun i h=>by cases h⟩
theorem np.at_(h:np w I g)(a:H<I.length):bR w H<w.length:=N1 (by rw[<-h.len];exact a)
theorem np.ix(h:np w I g)(s:Sm)(a:H<I.length):bR (w++[s]) H=bR w H:=L9 (by rw[<-h.len];exact a)
theorem np.ixEnd(h:np w I g):bR w I.length=w.length:=by rw[h.len];exact Ma w
theorem np.now(h:np w I g)(a:I[H]?=some B)(b:qP B.kind=false):(B.til==0)=aV w (bR w H) w.length:=by
 have c:=(Q8.1 a).1;have:=h.til H B a b I.length c (QR _);rw[h.ixEnd]at this;rw[<-this];have:=h.le H B a;rw[Sb (by omega),Sz]
theorem np.other(h:np w I g)(s:Sm)(G:nu (w++[s]) w.length=false)(u:∀o,o<=aO o s.k)(d:List Nat)(F:aO (bb w w.length) s.k=(d.length:Int))(E:d=g∨d=g++[I.length]):np (w++[s]) I d:=by
 have e:lV (w++[s])=lV w:=by rw[nX,QT (by rw[G];simp),Rl]
 have A:bR (w++[s]) I.length=w.length+1:=by
  unfold bR;rw[e,QQ,Rx (by rw[h.len];exact QR _)];exact cg w s
 refine⟨by rw[e];exact h.len,fun n t v y a f l=>?_,h.le,by rw[cg,hZ];exact F,fun i j=>?_⟩
 ·have c:=(Q8.1 v).1
  have m:=h.at_ c;rw[h.ix s c]
  by_cases B:a=I.length
  ·subst B
   rw[A,nL (by omega) u,h.til n t v y _ f l,h.ixEnd]
  ·have b:a<I.length:=by omega
   have:=h.at_ b;have r:bR w n<=bR w a:=RM (nW f (by rw[<-h.len];exact b));rw[h.ix s b,rV r (by omega)];exact h.til n t v y a f l
 ·rw[cg]
  have p:∀i,i<g.length->g.getD i 0<=I.length/\∀n,n<I.length->aV (w++[s]) (bR (w++[s]) n) (w.length+1)=true->(g.getD i 0<=n ↔ (i:Int)<bb (w++[s]) (bR (w++[s]) n)):=fun i j=>by
   obtain⟨C,D⟩:=h.rbl i j;refine⟨C,fun n c b=>?_⟩;have m:=h.at_ c;rw[h.ix s c]at b ⊢;rw[nL (by omega) u]at b;rw[qi (by omega)];exact D n c b
  rcases E with rfl | rfl
  ·exact p i j
  ·rw[Q0]at j
   replace j:i<g.length+1:=j
   by_cases x:i<g.length
   ·have q:(g++[I.length]).getD i 0=g.getD i 0:=by rw[QQ,QQ,Q7 x]
    rw[q];exact p i x
   ·have q:i=g.length:=by omega
    subst q;have z:(g++[I.length]).getD g.length 0=I.length:=by rw[QQ,Q5 (QR _),RY];rfl
    rw[z];refine⟨QR _,fun n c b=>?_⟩;have m:=h.at_ c;rw[h.ix s c]at b ⊢;rw[nL (by omega) u]at b;rw[qi (by omega)];have:=zz (by omega) b;have:=h.dep;omega
theorem np.kept(h:np w I g)(s:Sm)(K:nu (w++[s]) w.length=true)(B:∀o,aO o s.k=o)(t:St)(L:t.til=0):np (w++[s]) (I++[t]) g:=by
 have c:∀o,o<=aO o s.k:=fun o=>by rw[B o];exact TJ _
 have e:lV (w++[s])=lV w++[w.length]:=by rw[nX,QW K]
 have m:(I++[t]).length=I.length+1:=by rw[Q0];rfl
 have q:bR (w++[s]) I.length=w.length:=by
  unfold bR;rw[e,h.len,QQ,Q5 (QR _),RY];rfl
 have A:bR (w++[s]) (I.length+1)=w.length+1:=by
  unfold bR;rw[e,QQ,Rx (by rw[Q0,h.len];exact QR _)];exact cg w s
 have d:aV (w++[s]) w.length (w.length+1)=true:=by
  rw[nL (QR _) c];exact A9 w w.length
 refine⟨by rw[m,e,Q0,h.len];rfl,fun n u b x a l v=>?_,fun n u b=>?_,by rw[cg,hZ,B];exact h.dep,fun i J=>?_⟩
 ·rw[m]at v
  by_cases f:n<I.length
  ·rw[Q7 f]at b
   have z:=h.at_ f;have M:=h.le n u b;rw[h.ix s f]
   by_cases j:a<I.length
   ·have:=h.at_ j
    have y:bR w n<=bR w a:=RM (nW l (by rw[<-h.len];exact j));rw[h.ix s j,rV y (by omega)];exact h.til n u b x a l (by omega)
   ·by_cases D:a=I.length
    ·subst D
     rw[q,rV (by omega) (QR _),<-h.now b x,Sb (by omega),Sz]
    ·have E:a=I.length+1:=by omega
     subst E;rw[A,nL (by omega) c,<-h.now b x,Sb (by omega),Sz]
  ·have F:n=I.length:=by omega
   have j:a=I.length+1:=by omega
   subst F j;rw[Q5 (QR _),RY]at b
   cases b
   rw[q,A,d,L];rfl
 ·rw[m]
  by_cases f:n<I.length
  ·rw[Q7 f]at b
   have:=h.le n u b;omega
  ·have:=(Q8.1 b).1
   rw[m]at this;rw[Q5 (by omega),show n-I.length=0 by omega]at b
   cases b
   omega
 ·obtain⟨G,H⟩:=h.rbl i J
  rw[m,cg];refine⟨by omega,fun n f r=>?_⟩
  by_cases p:n<I.length
  ·have z:=h.at_ p
   rw[h.ix s p]at r ⊢;rw[nL (by omega) c]at r;rw[qi (by omega)];exact H n p r
  ·have C:n=I.length:=by omega
   subst C;rw[q,qi (QR _),h.dep]
   constructor
   ·intro _;omega
   ·intro _;exact G
theorem qj(h:(gy I H)[q]?=some B):∃v,I[q]?=some v/\B=(if H<=q/\q<I.length then lM I.length v else v):=by
 unfold gy at h;rw[mt]at h
 cases e:I[q]? with
 | none=>rw[e]at h;cases h
 | some v=>rw[e]at h;simp only[Option.map_some,Option.some.injEq]at h;exact⟨v,rfl,h.symm⟩
theorem np.pop(h:np w I (g++[H]))(s:Sm)(R:nu (w++[s]) w.length=false)(J:∀o,aO o s.k=o-1):np (w++[s]) (gy I H) g:=by
 have e:lV (w++[s])=lV w:=by rw[nX,QT (by rw[R];simp),Rl]
 have t:(gy I H).length=I.length:=jg I H I.length
 have N:bR (w++[s]) I.length=w.length+1:=by
  unfold bR;rw[e,QQ,Rx (by rw[h.len];exact QR _)];exact cg w s
 have P:bb w w.length=(g.length:Int)+1:=by rw[h.dep,Q0];rfl
 obtain⟨A,l⟩:=h.rbl g.length (by rw[Q0];exact Nat.lt_succ_self _);have M:(g++[H]).getD g.length 0=H:=by rw[QQ,Q5 (QR _),RY];rfl
 rw[M]at A l
 have K:∀n,n<I.length->aV (w++[s]) (bR w n) (w.length+1)=(aV w (bR w n) w.length&&decide (n<H)):=fun n b=>by
  have p:=h.at_ b;rw[FW (by omega)]
  cases f:aV w (bR w n) w.length
  ·rfl
  ·have q:=l n b f
   have:=zz (by omega) f;rw[J,Sv,Sv]
   by_cases c:n<H
   ·rw[SM c]
    exact SM (by omega)
   ·rw[Sb c]
    exact Sb (by omega)
 refine⟨by rw[t,e];exact h.len,fun n u C m a r y=>?_,fun n u C=>?_,by rw[cg,hZ,J,P];omega,fun i G=>?_⟩
 ·obtain⟨v,j,rfl⟩:=qj C
  have b:=(Q8.1 j).1;have p:=h.at_ b;rw[t]at y
  have d:qP v.kind=false:=by
   split at m
   ·unfold lM at m;split at m <;> exact m
   ·exact m
  have D:=h.now j d;rw[h.ix s b];have Q:=h.le n v j
  by_cases x:a<I.length
  ·have:=h.at_ x
   have B:bR w n<=bR w a:=RM (nW r (by rw[<-h.len];exact x));rw[h.ix s x,rV B (by omega),<-h.til n v j d a r (by omega)]
   split
   ·unfold lM
    split
    ·next c=>rw[c.1];simp;omega
    ·rfl
   ·rfl
  ·have O:a=I.length:=by omega
   subst O;rw[N,K n b,<-D]
   by_cases c:H<=n
   ·rw[QW ⟨c,b⟩,Sb (show ¬n<H by omega),Bool.and_false]
    unfold lM
    by_cases z:v.til=0
    ·rw[QW ⟨z,d⟩]
     show(I.length==0||decide (I.length<I.length))=false
     rw[Rh.2 (show I.length≠0 by omega),Sb (Nat.lt_irrefl _)];rfl
    ·rw[QT (fun q=>z q.1)]
     have:(v.til==0)=false:=Rh.2 z;rw[this,Sb (show ¬I.length<v.til by omega)];rfl
   ·rw[QT (fun q=>c q.1),SM (show n<H by omega),Bool.and_true,Sb (show ¬I.length<v.til by omega),Sz]
 ·obtain⟨v,j,rfl⟩:=qj C
  have:=h.le n v j;rw[t]
  split
  ·unfold lM
   split
   ·exact QR _
   ·exact this
  ·exact this
 ·obtain⟨E,F⟩:=h.rbl i (by rw[Q0];exact Nat.lt_succ_of_lt G)
  have L:(g++[H]).getD i 0=g.getD i 0:=by rw[QQ,QQ,Q7 G]
  rw[L]at E F;rw[t,cg];refine⟨E,fun n b f=>?_⟩;have p:=h.at_ b;rw[h.ix s b]at f ⊢;rw[K n b,Rg]at f;rw[qi (by omega)];exact F n b f.1
def NF(k:Int):Bool:=decide (2<=k/\k<=6)
structure kP(T:List Tk)(d:Db):Prop where
 hel:np (aj T) d.Vn d.rbl
 ct:∀(n:Nat) (s:St),d.Vn[n]?=some s->eZ (au (aj T) (bR (aj T) n)).k.toList s.kind/\s.label=bG T (au (aj T) (bR (aj T) n))/\s.U6=bu T (au (aj T) (bR (aj T) n)).h/\cU T (au (aj T) (bR (aj T) n)).h
 lab:d.label=if NF d.kind=true then tS T (fA T) else⟨#[]⟩
section
variable {T:List Tk} {t:Tk} {d d':Db}
theorem wA:nu (k++[r]) k.length=(((r.k.toList == [36,100])||(r.k.toList == [36,102])||(r.k.toList == [36,101])||(r.k.toList == [36,97])||(r.k.toList == [36,112]))):=by
 unfold nu;rw[lX]
theorem kP.old(R:kP T d)(q:il T (aj T) (aj T).length){M:List Sm}{b:St}(o:H<d.Vn.length)(p:d.Vn[H]?=some B)(e:bR (aj T++M) H=bR (aj T) H)(g:b.kind=B.kind)(i:b.label=B.label)(j:b.U6=B.U6) :
  eZ (au (aj T++M) (bR (aj T++M) H)).k.toList b.kind/\b.label=bG (T++[t]) (au (aj T++M) (bR (aj T++M) H))/\b.U6=bu (T++[t]) (au (aj T++M) (bR (aj T++M) H)).h/\cU (T++[t]) (au (aj T++M) (bR (aj T++M) H)).h:=by
 obtain⟨l,m,n,f⟩:=R.ct H B p;have c:=R.hel.at_ o;rw[e,jL _ _ _ c,g,i,j];refine⟨l,?_,?_,JW T [t] _ f⟩
 ·rw[m]
  unfold bG;rw[fI T [t] _ (q.a _ c)]
 ·rw[n,sg T [t] _ f]
theorem kP.Vb(R:kP T d)(j:il T (aj T) (aj T).length)(h:bS t.s=false)(c:d'.Vn=d.Vn)(f:d'.rbl=d.rbl)(g:d'.label=if NF d'.kind=true then tS (T++[t]) (fA T) else⟨#[]⟩):kP (T++[t]) d':=by
 obtain⟨b,e⟩:=mF (T:=T) (t:=t) h;refine⟨by rw[b,c,f];exact R.hel,fun n s a=>?_,by rw[e];exact g⟩;rw[c]at a;have i:=(Q8.1 a).1;rw[b];have:=R.old (t:=t) j (M:=[]) i a (by rw[Rl]) rfl rfl rfl;rw[Rl]at this;exact this
theorem kP.other(R:kP T d)(m:il T (aj T) (aj T).length)(s:Sm)(c:aj (T++[t])=aj T++[s])(j:nu (aj T++[s]) (aj T).length=false)(l:∀o,o<=aO o s.k)(i:aO (bb (aj T) (aj T).length) s.k=(d'.rbl.length:Int))(h:d'.rbl=d.rbl∨d'.rbl=d.rbl++[d.Vn.length])(b:d'.Vn=d.Vn)(f:d'.label=⟨#[]⟩)(g:d'.kind=0):kP (T++[t]) d':=by
 refine⟨by rw[c,b];exact R.hel.other s j l d'.rbl i h,fun n u a=>?_,by rw[f,g];rfl⟩;rw[b]at a;have e:=(Q8.1 a).1;rw[c];exact R.old m e a (R.hel.ix s e) rfl rfl rfl
theorem kP.kept(R:kP T d)(z:il T (aj T) (aj T).length)(s:Sm)(f:aj (T++[t])=aj T++[s])(g:nu (aj T++[s]) (aj T).length=true)(x:∀o,aO o s.k=o)(u:St)(y:u.til=0)(p:eZ s.k.toList u.kind)(w:u.label=bG (T++[t]) s)(q:u.U6=bu (T++[t]) s.h)(r:cU (T++[t]) s.h)(c:d'.Vn=d.Vn++[u])(i:d'.rbl=d.rbl)(j:d'.label=⟨#[]⟩)(l:d'.kind=0):kP (T++[t]) d':=by
 refine⟨by rw[f,c,i];exact R.hel.kept s g x u y,fun n v a=>?_,by rw[j,l];rfl⟩;rw[c]at a;rw[f]
 by_cases b:n<d.Vn.length
 ·rw[Q7 b]at a
  exact R.old z b a (R.hel.ix s b) rfl rfl rfl
 ·have e:n=d.Vn.length:=by
   have:=(Q8.1 a).1;rw[Q0]at this;have:n<d.Vn.length+1:=this;omega
  subst e;rw[Q5 (QR _),RY]at a
  cases a
  have m:bR (aj T++[s]) d.Vn.length=(aj T).length:=by
   unfold bR;rw[nX,QW g,R.hel.len,QQ,Q5 (QR _),RY];rfl
  rw[m,lX];exact⟨p,w,q,r⟩
theorem kP.pop(R:kP T d)(x:il T (aj T) (aj T).length)(s:Sm)(b:aj (T++[t])=aj T++[s])(p:nu (aj T++[s]) (aj T).length=false)(r:∀o,aO o s.k=o-1)(i:d.rbl=g++[H])(a:d'.Vn=gy d.Vn H)(j:d'.rbl=g)(l:d'.label=⟨#[]⟩)(m:d'.kind=0):kP (T++[t]) d':=by
 have h:=R.hel;rw[i]at h;refine⟨by rw[b,a,j];exact h.pop s p r,fun n u e=>?_,by rw[l,m];rfl⟩;rw[a]at e;obtain⟨v,f,w⟩:=qj e;have c:=(Q8.1 f).1
 have q:u.kind=v.kind/\u.label=v.label/\u.U6=v.U6:=by
  rw[w]
  split
  ·unfold lM;split <;> exact⟨rfl,rfl,rfl⟩
  ·exact⟨rfl,rfl,rfl⟩
 rw[b];exact R.old x c f (R.hel.ix s c) q.1 q.2.1 q.2.2
end
section
variable {T:List Tk} {t:Tk} {d:Db}
theorem zO(h:dA i=false):bS i=false:=by
 cases a:bS i
 ·rfl
 ·have:=(kM a).1
  rw[ia,h]at this;cases this
theorem lR(h:(i.toList==u)=true)(a:((u == [36,46])||(u == [36,123])||(u == [36,125]))=false):bS i=false:=by
 rw[(kc (dd h)).2.2];exact a
theorem kP.first(R:kP T d)(b:il T (aj T) (aj T).length)(z:bb (aj T) (aj T).length=(d.blocks.length:Int))(n:fA T=T.length)(r:d.kind=0)(a:(av d t.s).1=0):kP (T++[t]) (av d t.s).2:=by
 have g:d.label=⟨#[]⟩:=by rw[R.lab,r];rfl
 unfold av at *
 by_cases c:(t.s.toList == [36,123])=true
 ·rw[QW c]
  obtain⟨j,-⟩:=qo (T:=T) (t:=t) n (by rw[(kc (dd c)).2.2];decide);have h:∀o,aO o t.s=o+1:=fun o=>by rw[rr (dd c)];rfl
  refine R.other b _ j (by rw[wA];simp only;rw[dd c];decide) (fun o=>by show o<=aO o t.s;rw[h];omega) ?_ (QV rfl) rfl g r
  show aO _ t.s=_
  rw[h,R.hel.dep];simp only[List.length_append,List.length_cons,List.length_nil];omega
 rw[QT c]at a ⊢
 by_cases f:(t.s.toList == [36,125])=true
 ·rw[QW f]at a ⊢
  cases p:d.blocks.getLast? with
  | none=>rw[p]at a;cases a
  | some q =>
   simp only;obtain⟨j,-⟩:=qo (T:=T) (t:=t) n (by rw[(kc (dd f)).2.2];decide);have h:∀o,aO o t.s=o-1:=fun o=>by rw[rr (dd f)];rfl
   have i:d.rbl≠[]:=by
    intro e;have:=R.hel.dep;rw[z,e]at this;have:d.blocks=[]:=Rk (by simpa using this);rw[this]at p;cases p
   have w:d.rbl=d.rbl.dropLast++[d.rbl.getLast i]:=(Uv i).symm;have x:d.rbl.getLast?=some (d.rbl.getLast i):=Ta i;unfold cw;rw[x];exact R.pop b _ j (by rw[wA];simp only;rw[dd f];decide) (fun o=>h o) w rfl rfl g r
 rw[QT f]at a ⊢
 by_cases k:(t.s.toList == [36,99])=true
 ·rw[QW k]at a ⊢
  by_cases v:0<d.blocks.length
  ·rw[QW v]at a;cases a
  ·rw[QT v];exact R.Vb b (lR k (by decide)) rfl rfl g
 rw[QT k]at a ⊢
 by_cases l:(t.s.toList == [36,118])=true
 ·rw[QW l];exact R.Vb b (lR l (by decide)) rfl rfl g
 rw[QT l]at a ⊢
 by_cases m:(t.s.toList == [36,100])=true
 ·rw[QW m];exact R.Vb b (lR m (by decide)) rfl rfl g
 rw[QT m]at a ⊢
 split at a
 ·cases a
 ·next y =>
  rw[QT y];unfold bI at *
  cases u:dA t.s
  ·rw[u,QT (by simp)]at a
   split at a
   ·cases a
   ·next A =>
    split at a
    ·cases a
    ·next B =>
     rw[QT (by simp),QT A,QT B];exact R.Vb b (zO u) rfl rfl (by show t.s=tS (T++[t]) (fA T);rw[n,oV])
  ·rw[u,QW rfl]at a;cases a
theorem kP.key(R:kP T d)(c:il T (aj T) (aj T).length)(k:fA T+1=T.length)(j:d.kind=6)(a:(aH d t.s).1=0):kP (T++[t]) (aH d t.s).2:=by
 have b:d.label=tS (T++[t]) (fA T):=by rw[R.lab,j,fI T [t] _ (by omega)];rfl
 unfold aH at *
 split
 ·next h=>exact R.Vb c (lR h (by decide)) rfl rfl b
 ·next e =>
  rw[QT e]at a
  split
  ·next h=>exact R.Vb c (lR h (by decide)) rfl rfl b
  ·next f =>
   rw[QT f]at a
   split
   ·next h=>exact R.Vb c (lR h (by decide)) rfl rfl b
   ·next g =>
    rw[QT g]at a
    split
    ·next h=>exact R.Vb c (lR h (by decide)) rfl rfl b
    ·next i=>rw[QT i]at a;cases a
theorem LB(h:eZ u A):((u == [36,100])||(u == [36,102])||(u == [36,101])||(u == [36,97])||(u == [36,112]))=!((A==7)||(A==8)):=by
 (rcases h with ⟨rfl,rfl⟩ | ⟨rfl,rfl⟩ | ⟨rfl,rfl⟩ | ⟨rfl,rfl⟩ | ⟨rfl,rfl⟩ | ⟨rfl,rfl⟩ | ⟨rfl,rfl⟩) <;> decide
theorem LA(h:eZ i.toList A):(aC i||aG i)=NF A:=by
 have e:=kc (k:=i) rfl;rw[e.1,e.2.1];generalize i.toList=l at h
 (rcases h with ⟨rfl,rfl⟩ | ⟨rfl,rfl⟩ | ⟨rfl,rfl⟩ | ⟨rfl,rfl⟩ | ⟨rfl,rfl⟩ | ⟨rfl,rfl⟩ | ⟨rfl,rfl⟩) <;> decide
theorem kP.body(R:kP T d)(n:il T (aj T) (aj T).length)(F:ew T (fA T)=(i,H))(z:fA T<H)(y:H<=T.length)(k:eZ i.toList d.kind)(D:fa T H T.length=m)(B:d.U6=m.takeWhile kB)(p:Pl)(b:(aX d t.s p).1=0):kP (T++[t]) (aX d t.s p).2:=by
 have w:d.label=if NF d.kind=true then tS (T++[t]) (fA T) else⟨#[]⟩:=by rw[R.lab,fI T [t] _ (by omega)]
 rw[qA k]at *
 by_cases l:(t.s.toList == [36,46])=true
 ·rw[QW l]at *
  obtain⟨E,-⟩:=Gu l;obtain⟨r,-⟩:=oR T t;rw[QW E,sO F z y k]at r;simp only at r
  have f:bu (T++[t]) H=d.U6:=by
   unfold bu;rw[Sg y,vO _ t (fun u G=>?_) l,B,<-D,m8];have:=yU T H (by omega) u G;unfold bS at this;simp only[Bool.or_eq_false_iff]at this;exact this.1.1
  have A:cU (T++[t]) H:=⟨T.length,y,by simp,by rw[oV];unfold mM;rw[l];simp⟩;have c:=k.dep.1;have e:nu (aj T++[(⟨fA T,T.length+1,H,i⟩:Sm)]) (aj T).length=!((d.kind==7)||(d.kind==8)):=by rw[wA];exact LB k
  unfold lL at *
  split at b
  ·cases b
  ·next C =>
   rw[QT C]
   split at b
   ·cases b
   ·next j =>
    rw[QT j];simp only
    cases a:((d.kind==7)||(d.kind==8))
    ·rw[a]at e
     simp only[Bool.or_eq_false_iff]at a
     have h:(aY d p).Vn=d.Vn++[⟨d.kind,d.label,d.U6,d.Vh,p,0⟩]/\(aY d p).rbl=d.rbl:=by
      unfold aY mY mO;rw[a.1,a.2];simp only[Bool.false_eq_true,if_false]
      split <;> exact⟨rfl,rfl⟩
     refine R.kept n _ r e (fun o=>c o) ⟨d.kind,d.label,d.U6,d.Vh,p,0⟩ rfl k ?_ f.symm A h.1 h.2 rfl rfl
     show d.label=bG (T++[t]) ⟨fA T,T.length+1,H,i⟩
     unfold bG;simp only;rw[LA k];exact w
    ·rw[a]at e
     have h:(aY d p).Vn=d.Vn/\(aY d p).rbl=d.rbl:=by
      unfold aY dO;rw[RB]at a
      split
      ·exact⟨rfl,rfl⟩
      ·next q =>
       rw[QW (a.resolve_left q)];exact⟨rfl,rfl⟩
     refine R.other n _ r e (fun o=>by show o<=aO o i;rw[c];exact TJ _) ?_ (Q1 h.2) h.1 rfl rfl
     show aO _ i=_
     rw[c,R.hel.dep]
     show _=((aY d p).rbl.length:Int)
     rw[h.2]
 ·rw[QT l]at *
  by_cases x:(t.s.toList == [36,61])=true/\(d.kind==5)=true/\d.Va=false
  ·rw[QW x]at *
   unfold b7 at *
   split at b
   ·cases b
   ·next g=>rw[QT g];exact R.Vb n (lR x.1 (by decide)) rfl rfl w
  ·rw[QT x]at *
   cases v:dA t.s
   ·rw[v,QT (by simp)]at b
    rw[QT (by simp)]
    split at b
    ·next g=>rw[QW g];exact R.Vb n (zO v) rfl rfl w
    ·next g =>
     rw[QT g]
     split at b
     ·next j=>rw[QW j];exact R.Vb n (zO v) rfl rfl w
     ·next j=>simp only at b;rw[b]at j;exact absurd rfl j
   ·rw[v,QW rfl]at b;cases b
theorem kP.step(n:tF T d)(m:rR T (aj T) d)(o:∀j,j<T.length->bh T (aj T) j=0)(R:kP T d)(u:T.length<=100000)(p:Pl)(c:(aX d t.s p).1=0):kP (T++[t]) (aX d t.s p).2:=by
 obtain⟨i,-⟩:=Ao T u o
 rcases n with ⟨g,a,b,f,l⟩ | ⟨g,a,b,f,l,x,w⟩ | ⟨z,k,B,a,h,v,r,q,f,b,y,l,A⟩
 ·have e:aX d t.s p=av d t.s:=by unfold aX;rw[a];rfl
  rw[e]at c ⊢;exact R.first i (Bv m) g a c
 ·have e:aX d t.s p=aH d t.s:=by unfold aX;rw[a];rfl
  rw[e]at c ⊢;exact R.key i g a c
 ·exact R.body i a h v r q b p c
end
theorem fS(h:eZ u A):(A==3)=(u == [36,101])/\(A==2)=(u == [36,102])/\(A==1)=(u == [36,100])/\qP A=((u == [36,97])||(u == [36,112])):=by
 (rcases h with ⟨rfl,rfl⟩ | ⟨rfl,rfl⟩ | ⟨rfl,rfl⟩ | ⟨rfl,rfl⟩ | ⟨rfl,rfl⟩ | ⟨rfl,rfl⟩ | ⟨rfl,rfl⟩) <;> decide
theorem wQ:lV k=(List.range (lV k).length).map (bR k):=by
 apply Sq
 intro n;rw[Rq]
 by_cases h:n<(lV k).length
 ·rw[Uy h,QP h]
  show _=some (bR k n)
  unfold bR;rw[QQ,QP h];rfl
 ·rw[Rx (by omega),Rx (by rw[Tf];omega)];rfl
theorem ub(c:H=(lV w).length)(e:∀j,j<w.length->z6 j=true->nu w j=true)(f:∀n,n<H->y0 n=z6 (bR w n)):((List.range H).filter y0).map (bR w)=(List.range w.length).filter z6:=by
 have a:(List.range w.length).filter z6=(lV w).filter z6:=by
  unfold lV;rw[UG]
  apply dW
  intro j b
  cases h:z6 j
  ·rfl
  ·rw[e j b h];rfl
 rw[a,wQ w,<-c,List.filter_map]
 congr 1
 apply dW
 intro n d;exact f n d
theorem sF(h:q<=H)(p:Nat->Bool):(List.range H).filter (fun j=>decide (j<q)&&p j)=(List.range q).filter p:=by
 have e:List.range H=List.range q++(List.range (H-q)).map (q + ·):=by
  have:=@List.range_add q (H-q);rwa [show q+(H-q)=H by omega]at this
 have b:(List.range q).filter (fun j=>decide (j<q)&&p j)=(List.range q).filter p:=dW (fun j a=>by rw[SM a,Sv])
 have c:((List.range (H-q)).map (q + ·)).filter (fun j=>decide (j<q)&&p j)=[]:=by
  rw[Th];intro j a;obtain⟨i,-,rfl⟩:=Si.1 a;rw[Sb (by omega)];simp
 rw[e,RV,b,c,Rl]
section
variable {T:List Tk} {d:Db}
theorem kP.held(R:kP T d)(a:d.Vn[H]?=some B)(b:qP B.kind=false)(c:q<d.Vn.length):g7 d.Vn H q=(decide (bR (aj T) H<bR (aj T) q)&&aV (aj T) (bR (aj T) H) (bR (aj T) q)):=by
 have g:=(Q8.1 a).1;have f:=R.hel.len;unfold g7;rw[a];simp only
 by_cases h:H<q
 ·rw[SM h,SM (nW h (by omega)),R.hel.til H B a b q h (by omega)]
 ·have:¬bR (aj T) H<bR (aj T) q:=by
   by_cases e:H=q
   ·rw[e];omega
   ·have:=nW (S:=aj T) (n:=q) (a:=H) (by omega) (by omega)
    omega
  rw[Sb h,Sb this];rfl
theorem kP.get(R:kP T d)(a:H<d.Vn.length):∃s,d.Vn[H]?=some s/\eZ (au (aj T) (bR (aj T) H)).k.toList s.kind/\s.label=bG T (au (aj T) (bR (aj T) H))/\s.U6=bu T (au (aj T) (bR (aj T) H)).h:=by
 refine⟨d.Vn[H],QP a,?_⟩;obtain⟨b,c,e,-⟩:=R.ct H _ (QP a);exact⟨b,c,e⟩
theorem kP.symsAt(R:kP T d)(a:H<d.Vn.length):symsAt d.Vn H=bu T (au (aj T) (bR (aj T) H)).h:=by
 obtain⟨s,b,-,-,h⟩:=R.get a;unfold Go.Proofs.YtpddjjabfbfifaaGreat.symsAt;rw[b];exact h
theorem kP.syms(R:kP T d)(b:H<d.Vn.length):f8 d.Vn H=Dj T (aj T) (bR (aj T) H):=by
 have l:=R.hel.len;have a:=R.hel.at_ b
 have f:((List.range d.Vn.length).filter (zQ d.Vn H)).map (bR (aj T))=(List.range (bR (aj T) H)).filter (xY (aj T) (bR (aj T) H)):=by
  rw[<-sF (RM a)];refine ub l (fun j m h=>?_) (fun n c=>?_)
  ·unfold xY at h
   simp only[Bool.and_eq_true]at h;unfold nu;rw[h.2.1];simp
  ·obtain⟨s,i,g,-,-⟩:=R.get c
   unfold zQ xY;rw[i];simp only;rw[(fS g).1]
   cases e:((au (aj T) (bR (aj T) n)).k.toList == [36,101])
   ·simp
   ·have a:qP s.kind=false:=by
     rw[(fS g).2.2.2,ci e,ci e];decide
    rw[R.held i a b,Sv,Sv]
 unfold f8 eJ Dj lD;rw[R.symsAt b,<-f,List.flatMap_map]
 congr 1
 apply dx
 intro n c;exact R.symsAt (Ra.1 (RH.1 c).1)
def PM(T:List Tk)(S:List Sm):Prop:=∀j,j<S.length->((au S j).k.toList == [36,102])=true->2<=(bu T (au S j).h).length/\(bu T (au S j).h).getD 1 ⟨#[]⟩=tS T ((au S j).h+1)
theorem kP.hyps(R:kP T d)(F:PM T (aj T))(e:H<d.Vn.length):(aK d.Vn H).map (bR (aj T))=bW T (aj T) (bR (aj T) H):=by
 have t:=R.hel.len;have b:=R.hel.at_ e;unfold aK dG bW;rw[R.syms e,<-sF (RM b)];refine ub t (fun j w h=>?_) (fun n i=>?_)
 ·unfold sJ at h
  simp only[Bool.and_eq_true,Bool.or_eq_true]at h;unfold nu
  rcases h.2.2 with h | h
  ·rw[h];simp
  ·rw[h.1];simp
 ·obtain⟨s,f,r,-,g⟩:=R.get i
  have q:=R.hel.at_ i;obtain⟨v,l,x,m⟩:=fS r;unfold l6 sJ pN;rw[f];simp only;rw[l]
  cases a:((au (aj T) (bR (aj T) n)).k.toList == [36,102])
  ·rw[QT (by simp),v]
   cases c:((au (aj T) (bR (aj T) n)).k.toList == [36,101])
   ·simp
   ·have b:qP s.kind=false:=by rw[m,ci c,ci c];decide
    rw[R.held f b e];simp
  ·have b:qP s.kind=false:=by rw[m,ci a,ci a];decide
   have c:((au (aj T) (bR (aj T) n)).k.toList == [36,101])=false:=by rw[ci a];decide
   obtain⟨o,p⟩:=F _ q a
   have u:aL s=tS T ((au (aj T) (bR (aj T) n)).h+1):=by
    unfold aL;rw[QW ⟨by rw[l];exact a,by rw[g];exact o⟩,g,p]
   rw[QW rfl,R.held f b e,u,c,Sp,Sv,UY]
end
theorem Hg(L:List Tk):∀i,i<(ke L).length->(ke L)[i]?=L[i]?.map (·.s):=by
 induction L with
 | nil=>intro i a;cases a
 | cons t L b =>
  intro i a;unfold ke at a ⊢
  split
  ·next h=>rw[QW h]at a;cases a
  ·next h =>
   rw[QT h]at a
   cases i with
   | zero=>rfl
   | succ i=>exact b i (by simpa using a)
theorem Bi(a:b<(bu y N).length):(bu y N).getD b ⟨#[]⟩=tS y (N+b):=by
 unfold bu at *;have:=Hg (y.drop N) b a;unfold tS;rw[QQ,this,SV,QQ]
 cases y[N+b]? <;> rfl
section
variable {T:List Tk} {t:Tk} {d d':Db}
def vr(s:St):ByteArray:=s.U6.getD 1 ⟨#[]⟩
structure xA(d:Db):Prop where
 fl:∀(n:Nat) (s:St),d.Vn[n]?=some s->s.kind=2->2<=s.U6.length
 ds:∀(n m:Nat) (s u:St),d.Vn[n]?=some s->d.Vn[m]?=some u->s.kind=2->u.kind=2->n<m->(s.til=0∨m<s.til)->((vr s).toList==(vr u).toList)=false
 op:d.kind=2->2<=d.U6.length->aJ d.Vi (d.U6.getD 1 ⟨#[]⟩)=false
theorem kP.Vi(R:kP T d)(E:rR T (aj T) d)(F:xA d)(b:d.Vn[H]?=some B)(c:B.kind=2)(f:B.til=0):aJ d.Vi (vr B)=true:=by
 have j:=(Q8.1 b).1;obtain⟨i,-,e,-⟩:=R.ct H B b;have g:qP B.kind=false:=by rw[c];rfl
 have a:=R.hel.now b g;rw[f]at a;have h:=R.hel.at_ j;have m:((au (aj T) (bR (aj T) H)).k.toList == [36,102])=true:=by rw[<-(fS i).2.1,c];rfl
 rw[E.typ.l,nO,RC];refine⟨bR (aj T) H,RH.2 ⟨Ra.2 h,a.symm⟩,?_⟩;unfold Gg;rw[QW m,ru];have n:=F.fl H B b c;unfold vr;rw[e,Bi T _ 1 (by rw[<-e];omega)];simp
theorem xA.same(F:xA d)(b:d'.Vn=d.Vn)(e:d'.kind=2->2<=d'.U6.length->aJ d'.Vi (d'.U6.getD 1 ⟨#[]⟩)=false):xA d' :=
 ⟨fun n s a=>by rw[b]at a;exact F.fl n s a,fun n m s u a c=>by rw[b]at a c;exact F.ds n m s u a c,e⟩
theorem xA.ended(F:xA d)(b:Nat)(p:d'.Vn=gy d.Vn b)(r:d'.kind=0):xA d':=by
 have q:∀(n:Nat) (s:St),d'.Vn[n]?=some s->∃v,d.Vn[n]?=some v/\s.kind=v.kind/\s.U6=v.U6/\(s.til=v.til∨(v.til=0/\s.til=d.Vn.length)):=fun n s a=>by
  rw[p]at a;obtain⟨v,f,A⟩:=qj a;refine⟨v,f,?_⟩;rw[A]
  split
  ·unfold lM
   split
   ·next c=>exact⟨rfl,rfl,QV ⟨c.1,rfl⟩⟩
   ·exact⟨rfl,rfl,Q1 rfl⟩
  ·exact⟨rfl,rfl,Q1 rfl⟩
 refine⟨fun n s a j=>?_,fun n m s u a z j k l y=>?_,fun h=>by rw[r]at h;cases h⟩
 ·obtain⟨v,f,g,i,-⟩:=q n s a
  rw[i];exact F.fl n v f (by rw[<-g];exact j)
 ·obtain⟨v,f,g,i,e⟩:=q n s a
  obtain⟨x,o,t,w,-⟩:=q m u z;have B:=(Q8.1 o).1;unfold vr;rw[i,w];refine F.ds n m v x f o (by rw[<-g];exact j) (by rw[<-t];exact k) l ?_
  rcases e with e | ⟨e,-⟩
  ·rw[<-e];exact y
  ·exact Q1 e
theorem xA.more(R:kP T d)(E:rR T (aj T) d)(F:xA d)(u:St)(l:u.kind=2->2<=u.U6.length/\aJ d.Vi (vr u)=false)(o:d'.Vn=d.Vn++[u])(p:d'.kind=0):xA d':=by
 have q:∀(n:Nat) (s:St),d'.Vn[n]?=some s->(n<d.Vn.length/\d.Vn[n]?=some s)∨(n=d.Vn.length/\s=u):=fun n s a=>by
  rw[o]at a
  by_cases g:n<d.Vn.length
  ·rw[Q7 g]at a;exact Q1 ⟨g,a⟩
  ·have:=(Q8.1 a).1
   rw[Q0]at this;have:n<d.Vn.length+1:=this;rw[Q5 (by omega),show n-d.Vn.length=0 by omega]at a
   cases a
   exact QV ⟨by omega,rfl⟩
 refine⟨fun n s a b=>?_,fun n m s x a A b c k v=>?_,fun h=>by rw[p]at h;cases h⟩
 ·rcases q n s a with ⟨-,h⟩ | ⟨-,rfl⟩
  ·exact F.fl n s h b
  ·exact(l b).1
 ·rcases q m x A with ⟨y,t⟩ | ⟨y,rfl⟩
  ·rcases q n s a with ⟨-,f⟩ | ⟨g,-⟩
   ·exact F.ds n m s x f t b c k v
   ·omega
  ·rcases q n s a with ⟨-,f⟩ | ⟨g,-⟩
   ·have w:=R.hel.le n s f
    have r:s.til=0:=by omega
    have i:=R.Vi E F f b r;have j:=(l c).2
    cases z:((vr s).toList==(vr x).toList)
    ·rfl
    ·have e:(vr s).toList=(vr x).toList:=by simpa using z
     unfold aJ at i j;rw[e]at i;rw[i]at j;cases j
   ·omega
theorem xA.step(y:tF T d)(x:rR T (aj T) d)(R:kP T d)(F:xA d)(p:Pl)(f:(aX d t.s p).1=0):xA (aX d t.s p).2:=by
 rcases y with ⟨E,i,j,m,w⟩ | ⟨E,i,j,m,w,I,H⟩ | ⟨K,v,B,i,G,O,D,N,m,j,J,w,M⟩
 ·have e:aX d t.s p=av d t.s:=by unfold aX;rw[i];rfl
  rw[e]at f ⊢;unfold av bI cw at *;have k:∀d':Db,d'.Vn=d.Vn->d'.kind≠2->xA d':=fun d' l n=>F.same l (fun h=>absurd h n)
  repeat' split
  all_goals first
   | exact F
   | exact F.ended _ rfl i
   | exact k _ rfl (by rw[show _=_ from i];decide)
   | exact k _ rfl (by simp only;decide)
   | exact k _ rfl (by simp only;rw[i];decide)
   | exact k _ rfl (by show d.kind≠2;rw[i];decide)
 ·have e:aX d t.s p=aH d t.s:=by unfold aX;rw[i];rfl
  rw[e]at f ⊢;have k:∀d':Db,d'.Vn=d.Vn->d'.U6=d.U6->xA d':=fun d' l n=>F.same l (fun _ h=>by rw[n,j]at h;simp at h)
  unfold aH
  repeat' split
  all_goals exact k _ rfl rfl
 ·rw[qA D]at f ⊢
  by_cases u:(t.s.toList == [36,46])=true
  ·rw[QW u]at f ⊢
   unfold lL at *
   split at f
   ·cases f
   ·next r =>
    rw[QT r]
    split at f
    ·cases f
    ·next A =>
     rw[QT A];simp only
     cases c:((d.kind==7)||(d.kind==8))
     ·simp only[Bool.or_eq_false_iff]at c
      have o:(aY d p).Vn=d.Vn++[⟨d.kind,d.label,d.U6,d.Vh,p,0⟩]:=by
       unfold aY mY mO;rw[c.1,c.2];simp only[Bool.false_eq_true,if_false]
       split <;> rfl
      refine xA.more R x F ⟨d.kind,d.label,d.U6,d.Vh,p,0⟩ (fun b=>?_) o rfl;replace b:d.kind=2:=b
      have a:2<=d.U6.length:=by
       unfold l5 at r;rw[QW (QV (by rw[b];rfl))]at r;omega
      exact⟨a,F.op b a⟩
     ·have o:(aY d p).Vn=d.Vn:=by
       unfold aY dO;rw[RB]at c
       split
       ·rfl
       ·next q=>rw[QW (c.resolve_left q)]
      exact F.same o (fun h=>by cases h)
  ·rw[QT u]at f ⊢
   split
   ·unfold b7
    split <;> exact F.same rfl F.op
   ·split
    ·exact F
    ·split
     ·exact F.same rfl F.op
     ·split
      ·next C =>
       refine F.same rfl (fun b a=>?_);replace b:d.kind=2:=b;replace a:2<=(d.U6++[t.s]).length:=a;rw[Q0]at a;replace a:2<=d.U6.length+1:=a;have g:aZ d t.s=0:=by simpa using C
       unfold aZ at g;rw[b,QT (by decide),QT (by decide),QT (by decide),QT (by omega),QW (by rfl)]at g;unfold fC at g
       split at g
       ·cases g
       ·next L =>
        split at g
        ·cases g
        ·split at g
         ·cases g
         ·next z =>
          show aJ d.Vi ((d.U6++[t.s]).getD 1 ⟨#[]⟩)=false
          have l:(d.U6++[t.s]).getD 1 ⟨#[]⟩=t.s:=by
           rw[QQ,Q5 (by omega),show 1-d.U6.length=0 by omega];rfl
          rw[l];simpa using z
      ·exact F
theorem kP.flo(R:kP T d)(F:xA d):PM T (aj T):=by
 intro j h c;have a:j∈lV (aj T):=RH.2 ⟨Ra.2 h,by unfold nu;rw[c];simp⟩;rw[wQ]at a;obtain⟨n,b,rfl⟩:=Si.1 a;have b:n<d.Vn.length:=by rw[R.hel.len];exact Ra.1 b
 obtain⟨s,i,f,-,g⟩:=R.get b
 have k:s.kind=2:=by
  have:=(fS f).2.1;rw[c]at this;simpa using this
 have e:=F.fl n s i k;rw[g]at e;exact⟨e,Bi T _ 1 (by omega)⟩
end
section
variable {T:List Tk} {t:Tk} {d:Db}
structure oj(T:List Tk)(d:Db):Prop where
 e:rR T (aj T) d
 o:tF T d
 u:∀j,j<T.length->bh T (aj T) j=0
 b:jz T=(d.blocks.length:Int)
 r:kP T d
 f:xA d
theorem Bu(T:List Tk)(t:Tk):jz (T++[t])=aO (jz T) t.s:=by
 unfold jz;rw[Sw];rfl
theorem oj.step(I:oj T d)(m:T.length<=100000)(H:(t.s.toList == [])=false)(p:Pl):bh (T++[t]) (aj (T++[t])) T.length=(aX d t.s p).1/\((aX d t.s p).1=0->oj (T++[t]) (aX d t.s p).2):=by
 obtain⟨z,q⟩:=Ao T m I.u;have v:=Bk T t m I.u
 have g:bh (T++[t]) (aj (T++[t])) T.length=(aX d t.s p).1/\((aX d t.s p).1=0->rR (T++[t]) (aj (T++[t])) (aX d t.s p).2/\tF (T++[t]) (aX d t.s p).2):=by
  rcases I.o with ⟨n,i,c,a,k⟩ | ⟨n,i,c,a,k,x,w⟩ | ⟨g,D,B,i,l,E,C,A,a,c,y,k,F⟩
  ·have e:aX d t.s p=av d t.s:=by unfold aX;rw[i];rfl
   rw[v,QW n.symm,e];exact Fl z q I.e n i c a k H
  ·have e:aX d t.s p=aH d t.s:=by unfold aX;rw[i];rfl
   obtain⟨L,M⟩:=Mv (t:=t) z q I.e n c a k x w;rw[v,QT (by omega),L,QW (by simp),e];exact M
  ·rw[v,QT (by omega),sO i l E C,QT (by simp only;omega)]
   simp only;rw[A];exact JR z q I.e i l E C A a c y k F p
 refine⟨g.1,fun h=>?_⟩;obtain⟨J,K⟩:=g.2 h;refine⟨J,K,fun j G=>?_,?_,kP.step I.o I.e I.u I.r m p h,xA.step I.o I.e I.r I.f p h⟩
 ·rw[Q0,Rp,Rs]at G
  by_cases e:j<T.length
  ·exact rm T [t] m I.u j e
  ·have e:j=T.length:=by omega
   rw[e,g.1];exact h
 ·rw[Bu,I.b,Dc I.o t.s p h]
theorem Gt(T:List Tk)(h:0<T.length):∃u,T.getLast?=some u/\u.s=tS T (T.length-1):=by
 rw[SO,QP (by omega)];refine⟨_,rfl,?_⟩;unfold tS;rw[QQ,QP (by omega)];rfl
theorem oj.open(I:oj T d):kp d=!dg T:=by
 have p:=fw T;have t:=I.b
 have a:fA T<T.length->dg T=false:=fun h=>by
  obtain⟨u,i,j⟩:=Gt T (by omega);have:=p.n (T.length-1) (by unfold fA at h;omega) (by omega);unfold dg;rw[i];simp only;rw[j,this];rfl
 unfold kp
 rcases I.o with ⟨D,g,f,c,x⟩ | ⟨D,g,f,c,x,H,G⟩ | ⟨r,w,B,g,E,M,m,L,c,f,J,x,K⟩
 ·rw[g]
  have y:(bne (0:Int) 0)=false:=rfl;rw[y,Sp]
  by_cases C:T.length=0
  ·have e:T=[]:=Rk C
   rw[e]at t ⊢
   have:d.blocks.length=0:=by
    have h:jz []=0:=rfl;omega
   rw[this];rfl
  ·obtain⟨u,i,j⟩:=Gt T (by omega)
   have F:0<(aj T).length:=by
    rcases Nat.eq_zero_or_pos (aj T).length with h | h
    ·have:=EL T
     rw[h]at this;unfold kz at this;rw[QT (by omega)]at this;omega
    ·exact h
   have q:(au (aj T) ((aj T).length-1)).z=T.length:=by
    have:=EL T;unfold kz at this;rw[QW F]at this;omega
   have v:=(p.s ((aj T).length-1) (by omega)).1.e;rw[q]at v;unfold dg;rw[i];simp only;rw[j,v,Sv,t]
   by_cases q:d.blocks.length=0
   ·rw[q];rfl
   ·have A:((d.blocks.length:Int)==0)=false:=UV (by omega)
    rw[A,SM (show 0<d.blocks.length by omega)];rfl
 ·rw[g,a (by omega)];rfl
 ·rw[a (by omega)]
  have:(d.kind != 0)=true:=by
   generalize d.kind=k at m ⊢;generalize r.toList=l at m
   (rcases m with ⟨rfl,rfl⟩ | ⟨rfl,rfl⟩ | ⟨rfl,rfl⟩ | ⟨rfl,rfl⟩ | ⟨rfl,rfl⟩ | ⟨rfl,rfl⟩ | ⟨rfl,rfl⟩) <;> rfl
  rw[this];rfl
theorem Lm{d:Db}(h:d=⟨[],[],[],[],[],[],[],[],0,⟨#[]⟩,[],false,[]⟩):oj [] d:=by
 subst h;refine⟨⟨rfl,fun x=>rfl,⟨rfl,rfl,fun i a=>(by simp at a)⟩,⟨rfl,rfl,fun i a=>(by simp at a)⟩⟩,tF.none rfl rfl rfl rfl rfl,fun j b=>(by simp at b),rfl,⟨np.nil,(fun n s h=>by cases h),rfl⟩,⟨(fun n s h=>by cases h),(fun n m s u h=>by cases h),fun h=>by cases h⟩⟩
end
end Go.Proofs.YtpddjjabfbfifaaGreat
