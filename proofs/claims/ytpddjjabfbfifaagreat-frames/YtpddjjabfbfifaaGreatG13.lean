import Derived.Test.YtpddjjabfbfifaaGreatG04
import Derived.Test.YtpddjjabfbfifaaGreatG10
namespace Go.Proofs.YtpddjjabfbfifaaGreat
open Go.RowKit Tryz
set_option maxHeartbeats 0
variable{N:Int}{x z1:List Tk}{H D:Nat}{z6 y0:Nat->Bool}{b:List Sm}{z0 z3:Nat->List ByteArray}{z2:Sm}{i:List ByteArray}{a:List Nat}{y zt:Db}{o:List UInt8}{S:ByteArray}{k:List St}{g:St}(z4:ByteArray)(d f:List Tk)(z5 n:List Sm)(y1:Int)(z7:List Nat)(T:ByteArray)(L:Sm)(v:Nat)(y2:Bool)(M:List ByteArray)(w:ByteArray)(zb:Nat->Bool)(I:Tk)(l:Nat)
def lH(nm d:ByteArray)(i:rT):Tk:=⟨i.text,i.rule,nm,aP d i.pos,bm d i.pos⟩
def Oj(nm d:ByteArray):Nat->Nat->List Tk
 | 0,_=>[]
 | f+1,k=>lH nm d (bC d k).1 :: (if aI (bC d k).1=true then Oj nm d f (bC d k).2 else [])
def mS(nm d:ByteArray)(k:Nat):List Tk:=Oj nm d (d.size-k+1) k
theorem MT(f k:Nat)(a:k<=w.size)(b:w.size-k+1<=f):Oj T w f k=mS T w k:=by
 unfold mS
 suffices h:∀f g k,k<=w.size->w.size-k+1<=f->w.size-k+1<=g->Oj T w f k=Oj T w g k from h _ _ _ a b (QR _)
 clear b a f k;intro f
 induction f with
 | zero=>intro g k _ h;omega
 | succ f e =>
  intro g k a b i
  cases g with
  | zero=>omega
  | succ g =>
   rw[Oj,Oj]
   split
   ·next h =>
    have c:=gq w k a;have d:=c.2.2 h;rw[e g _ c.2.1 (by omega) (by omega)]
   ·rfl
theorem lE(b:l<=w.size)(h:aI (bC w l).1=true):mS T w l=lH T w (bC w l).1 :: mS T w (bC w l).2:=by
 have a:=gq w l b;have c:=a.2.2 h
 conv=>lhs;unfold mS
 rw[Oj,QW h,MT T w _ _ a.2.1 (by omega)]
theorem j7(h:aI (bC w l).1=false):mS T w l=[lH T w (bC w l).1]:=by
 unfold mS;rw[Oj,QT (by simp[h])]
theorem Fa(h:l<w.size)(a:cO (aF w l)=true):bC w l=bC w (l+1):=by
 unfold bC;rw[GL w l h a]
theorem uV(h:l<w.size)(b:cO (aF w l)=true):mS T w l=mS T w (l+1):=by
 have e:=Fa w l h b
 cases a:aI (bC w l).1
 ·rw[j7 T w l a,j7 T w (l+1) (by rw[<-e];exact a),e]
 ·rw[lE T w l (by omega) a,lE T w (l+1) (by omega) (by rw[<-e];exact a),e]
theorem Ds(n:Nat):∀a,(∀j,a<=j->j<a+n->j<w.size/\cO (aF w j)=false/\fn (aF w j)=true)->cG w a=cG w (a+n):=by
 induction n with
 | zero=>intro a _;rfl
 | succ n c =>
  intro a h;have b:=h a (by omega) (by omega);rw[GU w a b.1 b.2.1 b.2.2,c (a+1) (fun j d e=>h j (by omega) (by omega))]
  congr 1;omega
theorem DJ(h:qH N=false)(a:cO N=false):fn N=true:=by
 unfold qH at h;rw[a]at h;simpa using h
theorem CY(a:v<l)(g:l<=T.size)(b:∀j,v<=j->j<l->cO (aF T j)=false/\fn (aF T j)=true)(e:l<T.size->cO (aF T l)=true):bC T v=(⟨T.extract v l,0,false,v⟩,l):=by
 have c:=Ds T (l-v) v (fun j d f=>⟨by omega,b j d (by omega)⟩);rw[show v+(l-v)=l by omega]at c;refine ze T v v l (tw T v (fun h=>?_)).symm c.symm (fun h=>?_) a
 ·rw[(b v (QR _) a).1]at h;simp at h
 ·rw[e h.1]at h;simp at h
theorem og(i:Nat):∀j,di w i<=j->j<i->cO (aF w j)=false:=by
 induction i with
 | zero=>intro j _ h;omega
 | succ i c =>
  intro j a d;rw[di]at a
  split at a
  ·omega
  ·next b =>
   by_cases e:j=i
   ·rw[e];simpa using b
   ·exact c j a (by omega)
theorem xx(i:Nat)(h:i<=w.size)(f:∀j,j<i->qH (aF w j)=false):mS T w 0=jd T w i++mS T w (di w i):=by
 induction i with
 | zero=>rfl
 | succ i b =>
  have b:=b (by omega) (fun j k=>f j (by omega));rw[jd,di]
  cases a:cO (aF w i)
  ·rw[QT (by simp),QT (by simp)];exact b
  ·rw[QW rfl,QW rfl]
   have l:=oh w i;unfold je
   split
   ·next e =>
    rw[b,e,uV T w i (by omega) a]
   ·next e =>
    have g:=CY w (di w i) i (by omega) (by omega) (fun j c d=>⟨og w i j c d,DJ (f j (by omega)) (og w i j c d)⟩) (fun _=>a);rw[b,lE T w (di w i) (by omega) (by rw[g];rfl),g,<-uV T w i (by omega) a];simp[lH,me]
theorem FM:ij T w=mS T w 0:=by
 unfold ij
 cases d:jF w with
 | some i =>
  unfold jF at d;rw[Sj]at d;obtain⟨b,c,q⟩:=d;have c:=Ra.1 c;have f:∀j,j<i->qH (aF w j)=false:=fun j l=>by simpa using q j l
  have o:=oh w i;have g:∀j,di w i<=j->j<di w i+(i-di w i)->j<w.size/\cO (aF w j)=false/\fn (aF w j)=true:=fun j b c=>⟨by omega,og w i j b (by omega),DJ (f j (by omega)) (og w i j b (by omega))⟩
  have m:fn (aF w i)=false/\cO (aF w i)=false:=by
   unfold qH at b;simpa using b
  have p:=Ds w (i-di w i) (di w i) g;rw[show di w i+(i-di w i)=i by omega]at p
  have n:di w i=skip w (di w i):=(tw w _ (fun h=>by
   by_cases e:di w i=i
   ·rw[e,m.2]at h;simp at h
   ·rw[(g (di w i) (QR _) (by omega)).2.1]at h;simp at h)).symm
  have k:=CW w (di w i) (di w i) i n p.symm c m.2 m.1;simp only;rw[xx T w i (by omega) f,j7 T w (di w i) (by rw[k];rfl),k];simp[lH,me]
 | none =>
  have f:∀j,j<w.size->qH (aF w j)=false:=fun j l=>by
   unfold jF at d;rw[Sk]at d;simpa using d j (Ra.2 l)
  have o:=oh w w.size;have a:bC w w.size=(⟨⟨#[]⟩,0,true,w.size⟩,w.size):=CX w w.size w.size w.size (tw w _ (fun h=>by omega)).symm rfl (fun h=>by omega) (QR _);simp only;rw[xx T w w.size (QR _) f];unfold je
  split
  ·next e =>
   rw[e,j7 T w w.size (by rw[a];rfl),a];simp[lH,me]
  ·next e =>
   have k:=CY w (di w w.size) w.size (by omega) (QR _) (fun j b c=>⟨og w _ j b c,DJ (f j c) (og w _ j b c)⟩) (fun h=>by omega);rw[lE T w (di w w.size) o (by rw[k];rfl),k,j7 T w w.size (by rw[a];rfl),a];simp[lH,me]
def Od(nm d:ByteArray):Nat->Nat->List Tk
 | 0,_=>[]
 | f+1,k=>lH nm d (ay d k).1 :: (if aI (ay d k).1=true then Od nm d f (ay d k).2 else [])
def lZ(nm d:ByteArray)(k:Nat):List Tk:=Od nm d (d.size-k+1) k
theorem MA(f k:Nat)(a:k<=w.size)(b:w.size-k+1<=f):Od T w f k=lZ T w k:=by
 unfold lZ
 suffices h:∀f g k,k<=w.size->w.size-k+1<=f->w.size-k+1<=g->Od T w f k=Od T w g k from h _ _ _ a b (QR _)
 clear b a f k;intro f
 induction f with
 | zero=>intro g k _ h;omega
 | succ f e =>
  intro g k a b i
  cases g with
  | zero=>omega
  | succ g =>
   rw[Od,Od]
   split
   ·next h =>
    have c:=fG w k a;have d:=c.2.2 h;rw[e g _ c.2.1 (by omega) (by omega)]
   ·rfl
theorem j6(b:l<=w.size)(h:aI (ay w l).1=true):lZ T w l=lH T w (ay w l).1 :: lZ T w (ay w l).2:=by
 have a:=fG w l b;have c:=a.2.2 h
 conv=>lhs;unfold lZ
 rw[Od,QW h,MA T w _ _ a.2.1 (by omega)]
theorem j5(h:aI (ay w l).1=false):lZ T w l=[lH T w (ay w l).1]:=by
 unfold lZ;rw[Od,QT (by simp[h])]
theorem Fq(c:v<=T.size)(b:l<=T.size)(h:ay T v=ay T l):lZ z4 T v=lZ z4 T l:=by
 cases a:aI (ay T v).1
 ·rw[j5 z4 T v a,j5 z4 T l (by rw[<-h];exact a),h]
 ·rw[j6 z4 T v c a,j6 z4 T l b (by rw[<-h];exact a),h]
theorem GQ(c:UInt8):ii w ⟨#[36,c]⟩=(List.range w.size).any (fun i=>decide (1<=i)&&(aF w (i-1)==36)&&(aF w i==(c.toNat:Int))):=by
 have d:(⟨#[36,c]⟩:ByteArray).size=2:=rfl
 have b:∀i,i+2<=w.size->(rO w ⟨#[36,c]⟩ i=((aF w i==36)&&(aF w (i+1)==(c.toNat:Int)))):=fun i a=>by
  have e:(w.extract i (i+2)).toList=[w[i]'(by omega),w[i+1]'(by omega)]:=by
   apply UN
   ·rw[RZ];simp;omega
   ·intro n m k
    simp only[List.length_cons,List.length_nil]at k;have l:n=0∨n=1:=by omega
    simp only[ByteArray.toList_eq,ByteArray.data_extract,Array.getElem_toList,Array.getElem_extract]
    rcases l with rfl | rfl <;> rfl
  unfold rO;rw[d,e,bP w i (by omega),bP w (i+1) (by omega)];have j:(⟨#[36,c]⟩:ByteArray).toList=[36,c]:=by rw[RZ]
  rw[j]
  have f:∀x:UInt8,((x.toNat:Int)==36)=(x==36):=fun x=>by
   rw[SA];simp only[beq_iff_eq]
   constructor
   ·intro h;exact UInt8.toNat_inj.1 (by rw[show x.toNat=36 by omega];rfl)
   ·rintro rfl;rfl
  have g:∀x:UInt8,((x.toNat:Int)==(c.toNat:Int))=(x==c):=fun x=>by
   rw[SA];simp only[beq_iff_eq]
   constructor
   ·intro h;exact UInt8.toNat_inj.1 (by omega)
   ·rintro rfl;rfl
  rw[f,g];simp[Bool.beq_eq_decide_eq,Bool.decide_and]
 unfold ii;rw[d,SA,RC,RC]
 constructor
 ·rintro ⟨i,a,h⟩
  have a:=Ra.1 a;rw[Rg,Sx]at h;rw[b i h.1]at h;exact⟨i+1,Ra.2 (by omega),by rw[SD,Rg,Rg,Sx];rw[Rg]at h;exact⟨⟨by omega,h.2.1⟩,h.2.2⟩⟩
 ·rintro ⟨i,a,h⟩
  have a:=Ra.1 a;rw[Rg,Rg,Sx]at h;refine⟨i-1,Ra.2 (by omega),?_⟩;rw[Rg,Sx,b (i-1) (by omega),Rg,show i-1+1=i by omega];exact⟨by omega,h.1.2,h.2⟩
theorem uB:kE w=(ii w ⟨#[36,40]⟩||ii w ⟨#[36,41]⟩):=by
 rw[GQ,GQ,SA,RB];unfold kE;simp only[List.any_eq_true,Bool.and_eq_true,Bool.or_eq_true]
 constructor
 ·rintro ⟨i,c,b,a | a⟩
  ·exact Q1 ⟨i,c,b,a⟩
  ·exact QV ⟨i,c,b,a⟩
 ·rintro (⟨i,c,b,a⟩ | ⟨i,c,b,a⟩)
  ·exact⟨i,c,b,Q1 a⟩
  ·exact⟨i,c,b,QV a⟩
theorem ia:ii w ⟨#[36]⟩=dA w:=by
 have b:(⟨#[36]⟩:ByteArray).size=1:=rfl
 have a:∀i,i+1<=w.size->(rO w ⟨#[36]⟩ i=(aF w i==36)):=fun i c=>by
  have e:(w.extract i (i+1)).toList=[w[i]'(by omega)]:=by
   apply UN
   ·rw[RZ];simp;omega
   ·intro n j f
    simp only[List.length_cons,List.length_nil]at f;have g:n=0:=by omega
    simp only[ByteArray.toList_eq,ByteArray.data_extract,Array.getElem_toList,Array.getElem_extract];subst g;rfl
  unfold rO;rw[b,e,bP w i (by omega)];have d:(⟨#[36]⟩:ByteArray).toList=[36]:=by rw[RZ]
  rw[d,SA];simp only[beq_iff_eq,List.cons.injEq,and_true]
  constructor
  ·intro h;rw[h];rfl
  ·intro h;exact UInt8.toNat_inj.1 (by rw[show(w[i]'(by omega)).toNat=36 by omega];rfl)
 unfold ii dA;rw[b,SA,RC,RC]
 constructor
 ·rintro ⟨i,c,h⟩
  rw[Rg,Sx]at h;rw[a i h.1]at h;exact⟨i,Ra.2 (by omega),h.2⟩
 ·rintro ⟨i,c,h⟩
  have c:=Ra.1 c;exact⟨i,Ra.2 (by omega),by rw[Rg,Sx,a i (by omega)];exact⟨by omega,h⟩⟩
theorem tu(c:l<=w.size):(aI (bC w l).1=true->((bC w l).1.text.toList == [])=false/\(bC w l).1.rule=0)/\(aI (bC w l).1=false->(bC w l).1.text=⟨#[]⟩/\((bC w l).1.fin=true->(bC w l).1.rule=0)):=by
 have a:=AB w l c;have b:=rQ w (skip w l) a.2;unfold bC;simp only
 split
 ·exact⟨fun h=>by simp[aI]at h,fun _=>⟨rfl,fun h=>by cases h⟩⟩
 ·split
  ·exact⟨fun h=>by simp[aI]at h,fun _=>⟨rfl,fun _=>rfl⟩⟩
  ·next d f =>
   refine⟨fun _=>⟨?_,rfl⟩,fun h=>by simp[aI]at h⟩
   have g:(w.extract (skip w l) (cG w (skip w l))).size=cG w (skip w l)-skip w l:=by
    rw[Tw];omega
   cases e:((w.extract (skip w l) (cG w (skip w l))).toList == [])
   ·rfl
   ·have e:(w.extract (skip w l) (cG w (skip w l))).toList=[]:=by simpa using e
    have:=congrArg List.length e;rw[RZ]at this;have i:cG w (skip w l)-skip w l=0∨w.size-skip w l=0:=by simpa using this
    omega
theorem KE(f:Nat):∀k,k<=w.size->w.size-k+1<=f ->
  bQ true (mS T w k)=(if aI (aW w k).1=true then bQ false (mS T w (aW w k).2) else [lH T w (aW w k).1]):=by
 induction f with
 | zero=>intro k _ h;omega
 | succ f n =>
  intro k i q;have j:=gq w k i;obtain⟨o,p⟩:=tu w k i
  cases a:aI (bC w k).1
  ·obtain⟨d,e⟩:=p a
   rw[j7 T w k a]
   cases b:(bC w k).1.fin
   ·have m:((bC w k).1.rule==0)=false:=by
     unfold aI at a;rw[b]at a;simpa using a
    rw[uE w k a b,a,QT (by simp),bQ,QW (by exact m)];rw[bQ]
   ·rw[sx w k a b,QT (by simp[aI]),bQ,QT (by simp[lH,e b]),QT (by simp[lH,Dw,d]),QW (by simp[lH,Dw,d]),bQ]
    rfl
  ·obtain⟨d,e⟩:=o a
   have l:=j.2.2 a;rw[lE T w k i a]
   cases c:((bC w k).1.text.toList == [36,41])
   ·cases g:kE (bC w k).1.text
    ·rw[vS w k i a c g,bQ,QT (by simp[lH,e]),QT (by simp only[lH,Dw];rw[c];simp),QT (by simp only[lH,Dw];rw[d];simp),QT (by rw[<-uB];simp only[lH];rw[g];simp)]
     exact n _ j.2.1 (by omega)
    ·rw[sw w k a c g,QT (by simp[aI]),bQ,QT (by simp[lH,e]),QT (by simp only[lH,Dw];rw[c];simp),QT (by simp only[lH,Dw];rw[d];simp),QW (by rw[<-uB];exact g)]
     rfl
   ·rw[qN w k a c,QW a,bQ,QT (by simp[lH,e]),QW (by simp only[lH,Dw];exact c)]
theorem G6(f:Nat):∀k,k<=w.size->w.size-k+1<=f->bQ false (mS T w k)=lZ T w k:=by
 induction f with
 | zero=>intro k _ h;omega
 | succ f j =>
  intro k d p;have i:=gq w k d;obtain⟨q,n⟩:=tu w k d
  cases b:aI (bC w k).1
  ·obtain⟨l,o⟩:=n b
   have a:=rG w k (Q1 b);rw[j7 T w k b,j5 T w k (by rw[a];exact b),a,bQ,QT (by simp[lH,Dw,l]),bQ]
  ·have m:=i.2.2 b
   rw[lE T w k d b]
   cases e:((bC w k).1.text.toList == [36,40])
   ·have a:=rG w k (QV e)
    rw[j6 T w k d (by rw[a];exact b),a,bQ,QT (by simp only[lH,Dw];rw[e];simp),j _ i.2.1 (by omega)]
   ·have g:=i9 w (bC w k).2 i.2.1
    rw[bQ,QW (by simp only[lH,Dw];exact e),KE T w _ _ i.2.1 (QR _)]
    cases c:aI (aW w (bC w k).2).1
    ·have a:=uM w k b e c
     rw[QT (by simp),j5 T w k (by rw[a];exact c),a]
    ·have a:=Gx w k d b e c
     rw[QW rfl,j _ g.2 (by omega)];exact(Fq T w k _ d g.2 a).symm
theorem zn(a:Fs)(k:Nat):qV a k=lZ (aE a k) (ak a k) 0:=by
 unfold qV;rw[FM];exact G6 _ _ _ 0 (Ro _) (QR _)
theorem fI(h:l<d.length):tS (d++f) l=tS d l:=by
 unfold tS;rw[QQ,QQ,Q7 h]
theorem oV:tS (f++[I]) f.length=I.s:=by
 unfold tS;rw[QQ,Q5 (QR _),RY];rfl
theorem Ae(h:l+1<d.length):ew (d++f) l=ew d l:=by
 unfold ew;rw[fI d f l (by omega),fI d f (l+1) h,Q0];have a:decide (d.length+f.length<=l+1)=false:=by simp;omega
 have b:decide (d.length<=l+1)=false:=by simp;omega
 rw[a,b]
theorem IA(c:v<=l)(b:l<d.length)(a:bS (tS d l)=true):ew (d++f) v=ew d v:=by
 by_cases e:v=l
 ·subst e
  unfold ew;rw[fI d f v b,(kM a).1];simp
 ·exact Ae d f v (by omega)
theorem wH(i:Nat)(c:i<=d.length):eO (d++f) i=eO d i:=by
 induction i with
 | zero=>rfl
 | succ i b =>
  rw[eO,eO,b (by omega),fI d f i (by omega)]
  cases a:bS (tS d i)
  ·rfl
  ·rw[IA d f _ i (LK d i) (by omega) a]
theorem EH(k:Nat):∃M,(eO f (l+k)).1=(eO f l).1++M/\∀m∈M,l<m.z:=by
 induction k with
 | zero=>exact⟨[],by simp,by simp⟩
 | succ k d =>
  obtain⟨M,a,b⟩:=d;rw[show l+(k+1)=(l+k)+1 by omega,eO]
  split
  ·refine⟨M++[⟨(eO f (l+k)).2,l+k+1,(ew f (eO f (l+k)).2).2,(ew f (eO f (l+k)).2).1⟩],by simp only[a,List.append_assoc],fun m c=>?_⟩
   rcases Rr.1 c with h | h
   ·exact b m h
   ·rw[Q9.1 h];show l<l+k+1;omega
  ·exact⟨M,a,b⟩
theorem zl:∃M,aj (d++f)=aj d++M/\∀m∈M,d.length<m.z:=by
 obtain⟨M,a,b⟩:=EH (d++f) d.length f.length;refine⟨M,?_,b⟩;unfold aj;rw[Q0,a,wH d f _ (QR _)]
def fA(T:List Tk):Nat:=(eO T T.length).2
theorem EL:fA f=kz (aj f) (aj f).length:=(fw f).fr
theorem oR:aj (f++[I])=(if bS I.s=true then aj f++[⟨fA f,f.length+1,(ew (f++[I]) (fA f)).2,(ew (f++[I]) (fA f)).1⟩] else aj f)/\fA (f++[I])=(if bS I.s=true then f.length+1 else fA f):=by
 unfold aj fA;rw[Q0,Rp,Rs,eO,wH f [I] f.length (QR _),oV]
 split <;> exact⟨rfl,rfl⟩
theorem jL(h:l<z5.length):au (z5++n) l=au z5 l:=by
 unfold au;rw[QQ,QQ,Q7 h]
theorem Bf(h:l<=z5.length):kz (z5++n) l=kz z5 l:=by
 unfold kz
 split
 ·rw[jL z5 n (l-1) (by omega)]
 ·rfl
theorem Ga(S M:List Sm)(h:∀m∈M,l<m.z):nt l (S++M)=nt l S:=by
 induction S with
 | nil =>
  cases M with
  | nil=>rfl
  | cons m M =>
   have:=h m (by simp)
   show(if m.z<=l then nt l M+1 else 0)=0
   rw[QT (by omega)]
 | cons s S a=>rw[Ti,nt,nt,a]
theorem rj(h:l<=z5.length):aV (z5++n) v l=aV z5 v l:=by
 unfold aV
 by_cases a:v<=z5.length
 ·rw[Sg a,So (by rw[RT];omega)]
 ·rw[show l-v=0 by omega];simp
theorem lp(h:l<=z5.length):bb (z5++n) l=bb z5 l:=by
 unfold bb;rw[So h]
theorem yk(L M:List Tk)(h:∃u∈L,mM u.s=true):ke (L++M)=ke L:=by
 induction L with
 | nil=>obtain⟨u,b,-⟩:=h;cases b
 | cons a L e =>
  rw[Ti,ke,ke]
  split
  ·rfl
  ·next d =>
   rw[e];obtain⟨u,b,c⟩:=h
   rcases Rj.1 b with rfl | b
   ·exact absurd c d
   ·exact⟨u,b,c⟩
theorem JX(c:cU x H):∃u∈x.drop H,mM u.s=true:=by
 obtain⟨e,d,b,a⟩:=c;refine⟨x[e],?_,?_⟩
 ·rw[List.mem_iff_getElem?]
  exact⟨e-H,by rw[SV,show H+(e-H)=e by omega,QP b]⟩
 ·unfold tS at a
  rw[QQ,QP b]at a;exact a
theorem sg(a:cU d l):bu (d++f) l=bu d l:=by
 have b:l<=d.length:=by obtain⟨e,c,g,-⟩:=a;omega
 unfold bu;rw[Sg b,yk _ _ (JX a)]
theorem JW(g:cU d l):cU (d++f) l:=by
 obtain⟨e,a,b,c⟩:=g;exact⟨e,a,by rw[Q0];omega,by rw[fI d f e b];exact c⟩
theorem lm(h:∀j,j<H->z6 j=y0 j):(List.range H).any z6=(List.range H).any y0:=by
 rw[SA,RC,RC]
 constructor
 ·rintro ⟨j,a,b⟩;exact⟨j,a,by rw[<-h j (Ra.1 a)];exact b⟩
 ·rintro ⟨j,a,b⟩;exact⟨j,a,by rw[h j (Ra.1 a)];exact b⟩
theorem wb{l:List Nat}{q:Nat->Bool}(h:∀j∈l,z6 j=q j):l.find? z6=l.find? q:=by
 induction l with
 | nil=>rfl
 | cons a l c =>
  rw[List.find?_cons,List.find?_cons,h a (by simp),c (fun j b=>h j (by simp[b]))]
section
variable {T U:List Tk} {S M:List Sm} {n:Nat}
theorem vT(c:n<=S.length)(b:∀j,j<n->((au S j).k.toList==z4.toList)=true->cU T (au S j).h):jq (T++U) (S++M) z4 T n y2=jq T S z4 T n y2:=by
 unfold jq;refine lm (fun j a=>?_);unfold pG;rw[jL S M j (by omega),rj S M j n c]
 cases h:((au S j).k.toList==z4.toList)
 ·rfl
 ·rw[sg T U _ (b j a h)]
theorem tN(a:il T S n):eF (T++U) (S++M) w n=eF T S w n:=vT _ w _ a.m (by rw[nR.1];exact a.c)
theorem GR(a:il T S n):kZ (T++U) (S++M) w n=kZ T S w n:=vT _ w _ a.m (by rw[nR.2];exact a.v)
theorem yK(h:L.a<T.length):bG (T++U) L=bG T L:=by
 unfold bG;rw[fI T U L.a h]
theorem sP(c:il T S n):bE (T++U) (S++M) w n=bE T S w n:=by
 unfold bE
 rw[wb (q:=qL T S w) (fun j b=>by
  have b:=Ra.1 b;have:=c.m;unfold qL;rw[jL S M j (by omega),yK _ (c.a j b)])]
theorem zm(a:il T S n):jC (T++U) (S++M) w n=jC T S w n:=by
 unfold jC;rw[sP w a,tN w a,vT _ w _ a.m (by rw[nR.2];exact a.v)]
theorem Il(b:il T S n)(c:l8 T S n):gg (T++U) (S++M) w n=gg T S w n:=by
 unfold gg
 rw[wb (q:=tV T S w n) (fun j a=>by
  have a:=Ra.1 a;have:=b.m;unfold tV;rw[jL S M j (by omega),rj S M j n b.m]
  cases h:((au S j).k.toList == [36,102])
  ·rfl
  ·rw[fI T U _ (c j a h)])]
theorem IV(a:il T S n):jW (T++U) (S++M) T n y2 M=jW T S T n y2 M:=by
 unfold jW;rw[zm T a,sP T a,tN T a,GR T a]
theorem Fo(a:il T S n)(b:l8 T S n):jm (T++U) (S++M) z4 T n M=jm T S z4 T n M:=by
 unfold jm;rw[tN T a,GR T a,Il T a b]
theorem CR(a:il T S n)(b:l8 T S n):lW (T++U) (S++M) z4 T n M=lW T S z4 T n M:=by
 unfold lW;rw[IV T _ M a,Fo z4 T M a b]
theorem yB(a:il T S n):dw (T++U) (S++M) w n=dw T S w n:=by
 unfold dw;rw[lp S M n a.m,zm w a]
end
theorem F0(a:v<=l)(b:l<=d.length):fa (d++f) v l=fa d v l:=by
 unfold fa;rw[Sg (by omega),So (by rw[RT];omega)]
theorem vP(h:d.length<=100000)(i:Nat)(c:i<d.length)(a:∀j,j<i->bh d (aj d) j=0):bh (d++f) (aj (d++f)) i=bh d (aj d) i:=by
 obtain⟨b,l⟩:=Ot d h i c a;obtain⟨M,g,o⟩:=zl d f;rw[g];generalize aj d=S at *;have k:i8 (S++M) i=i8 S i:=Ga i S M (fun m n=>by have:=o m n;omega);have p:=KM S i;unfold bh;rw[k,Bf S M _ b.m,fI d f i c]
 by_cases e:i=kz S (i8 S i)
 ·rw[QW e,QW e,yB _ b]
 ·rw[QT e,QT e,Ae d f _ (by omega)]
  split
  ·rfl
  ·next q =>
   rw[CR _ _ _ b l,F0 d f _ i (by omega) (by omega)]
theorem rm(b:d.length<=100000)(h:∀j,j<d.length->bh d (aj d) j=0):∀j,j<d.length->bh (d++f) (aj (d++f)) j=0:=fun j a=>by
 rw[vP d f b j a (fun q c=>h q (by omega))];exact h j a
def uH(o:Int)(L:List Sm):Int:=L.foldl (fun o s=>aO o s.k) o
theorem yn(c:Int)(k:ByteArray):aO (y1+c) k=aO y1 k+c:=by
 unfold aO
 split <;> split <;> omega
theorem BJ(L:List Sm):∀o c,uH (o+c) L=uH o L+c:=by
 induction L with
 | nil=>intro o c;rfl
 | cons s L a =>
  intro o c
  show uH (aO (o+c) s.k) L=uH (aO o s.k) L+c
  rw[yn,a]
theorem GX(L:List Sm)(s:Sm):∀o,qE o (L++[s])=(qE o L&&decide (0<=uH o (L++[s]))):=by
 induction L with
 | nil =>
  intro o
  show(if aO o s.k<0 then false else qE (aO o s.k) [])=(qE o []&&decide (0<=aO o s.k))
  simp only[qE]
  by_cases h:aO o s.k<0
  ·rw[QW h];simp;omega
  ·rw[QT h];simp;omega
 | cons a L b =>
  intro o;rw[Ti,qE,qE]
  by_cases h:aO o a.k<0
  ·rw[QW h,QW h];rfl
  ·rw[QT h,QT h,b];rfl
theorem Ed(b:v<=l):uH 0 ((n.drop v).take (l-v))=bb n l-bb n v:=by
 have e:n.take l=n.take v++(n.drop v).take (l-v):=by
  rw[show l=v+(l-v) by omega,List.take_add];simp
 have a:bb n l=uH (bb n v) ((n.drop v).take (l-v)):=by
  unfold bb uH;rw[e,Sw]
 have:=BJ ((n.drop v).take (l-v)) 0 (bb n v);rw[Int.zero_add]at this;omega
theorem rW(b:v<=l)(c:l<n.length):aV n v (l+1)=(aV n v l&&decide (bb n v<=bb n (l+1))):=by
 have e:(n.drop v).take (l+1-v)=(n.drop v).take (l-v)++[n[l]]:=by
  rw[show l+1-v=(l-v)+1 by omega,RG (by rw[RT];omega),TI]
  congr 3;omega
 have a:=Ed n v (l+1) (by omega);unfold aV;rw[e]at a ⊢;rw[GX,a]
 congr 1
 rw[decide_eq_decide];omega
theorem A9:aV n l l=true:=by
 unfold aV;rw[RY,Tq,qE]
theorem DE(a:Nat)(g:l<=a)(i:a<=n.length)(h:aV n l a=true):∀m,l<=m->m<=a->bb n l<=bb n m:=by
 induction a with
 | zero =>
  intro m b d;have e:m=l:=by omega
  rw[e];exact TJ _
 | succ a f =>
  intro m b d
  by_cases e:l=a+1
  ·have e:m=l:=by omega
   rw[e];exact TJ _
  ·rw[rW n l a (by omega) (by omega),Rg,Sx]at h
   by_cases c:m=a+1
   ·rw[c];exact h.2
   ·exact f (by omega) (by omega) h.1 m b (by omega)
def j8(S:List Sm)(n:Nat):List Nat:=(List.range n).filter (fun j=>aV S j n)
theorem io(h:D∈j8 b H):D<H:=Ra.1 (RH.1 h).1
theorem DD(d:l<=n.length):(j8 n l).Pairwise (fun a b=>bb n a<=bb n b):=by
 have h:=(Ui (n:=l)).filter (fun j=>aV n j l);refine h.imp_of_mem (fun {a b} ha c hab=>?_);have c:=io c;exact DE n a l (by omega) d (RH.1 ha).2 b (by omega) (by omega)
theorem Fi{f:Nat->Int}(l:List Nat)(h:l.Pairwise (fun a b=>f a<=f b)):l=l.filter (fun j=>decide (f j<=y1))++l.filter (fun j=>!decide (f j<=y1)):=by
 induction l with
 | nil=>rfl
 | cons a l c =>
  obtain⟨g,i⟩:=List.pairwise_cons.1 h;have c:=c i
  by_cases d:f a<=y1
  ·rw[SG (by simpa using d),Ss (by simpa using d),Ti,<-c]
  ·have e:l.filter (fun j=>decide (f j<=y1))=[]:=by
    rw[Th];intro b k;have:=g b k;simp;omega
   rw[Ss (by simpa using d),SG (by simpa using d),e];rw[e]at c;rw[Uu]at c ⊢;rw[<-c]
theorem dW(h:∀j,j<H->z6 j=y0 j):(List.range H).filter z6=(List.range H).filter y0 :=
 Uj (fun j a=>h j (Ra.1 a))
theorem hZ:bb (n++[L]) (n.length+1)=aO (bb n n.length) L.k:=by
 rw[uG (n++[L]) n.length (by simp),lp n [L] _ (QR _)]
 congr 2
 simp
theorem ri:j8 (n++[L]) (n.length+1)=(j8 n n.length).filter (fun j=>decide (bb n j<=aO (bb n n.length) L.k))++(if 0<=aO 0 L.k then [n.length] else []):=by
 unfold j8;rw[R6,RV,UG]
 congr 1
 ·refine dW (fun j a=>?_)
  rw[rW (n++[L]) j n.length (by omega) (by simp),rj n [L] j _ (QR _),lp n [L] j (by omega),hZ,U5]
 ·have e:aV (n++[L]) n.length (n.length+1)=decide (0<=aO 0 L.k):=by
   rw[rW (n++[L]) n.length n.length (QR _) (by simp),A9,lp n [L] _ (QR _),hZ,Sv,decide_eq_decide];have:=yn 0 (bb n n.length) L.k;rw[Int.zero_add]at this;omega
  by_cases h:0<=aO 0 L.k
  ·rw[QW h,SG (by rw[e];simpa using h)];rfl
  ·rw[QT h,Ss (by rw[e];simpa using h)];rfl
theorem GY(a:H<=b.length)(h:D∈j8 b H):bb b D<=bb b H:=by
 have c:=io h;exact DE b D H (by omega) a (RH.1 h).2 H (by omega) (QR _)
structure rU(F:Nat->List ByteArray)(S:List Sm)(L:List ByteArray)(B:List Nat):Prop where
 l:L=(j8 S S.length).flatMap F
 b:(B.length:Int)=bb S S.length
 o:∀i,i<B.length->B[i]?=some (((j8 S S.length).filter (fun j=>decide (bb S j<=(i:Int)))).flatMap F).length
theorem dx{l:List Nat}{G:Nat->List ByteArray}(h:∀j∈l,z0 j=G j):l.flatMap z0=l.flatMap G:=by
 induction l with
 | nil=>rfl
 | cons a l c=>rw[RI,RI,h a (by simp),c (fun j b=>h j (by simp[b]))]
theorem rt(c:H<=b.length)(d:bb b H<=N):(j8 b H).filter (fun j=>decide (bb b j<=N))=j8 b H :=
 List.filter_eq_self.2 (fun j a=>by have:=GY c a;simp;omega)
theorem cg:(n++[L]).length=n.length+1:=by simp
theorem pg(d:H<=b.length)(c:Int):(j8 b H).filter (fun j=>decide (bb (b++[z2]) j<=c))=(j8 b H).filter (fun j=>decide (bb b j<=c)) :=
 Uj (fun j a=>by rw[lp b [z2] j (by have:=io a;omega)])
theorem rU.norm(h:rU z0 b i a)(s:Sm)(d:∀o,aO o s.k=o)(f:∀j,j<b.length->z3 j=z0 j):rU z3 (b++[s]) (i++z3 b.length) a:=by
 have e:=ri b s;rw[d,d,QW (TJ _),rt (QR _) (TJ _)]at e;have g:=h.b;refine⟨?_,?_,fun n m=>?_⟩
 ·rw[cg,e,Sh,h.l,dx (fun j c=>f j (io c))];simp
 ·rw[cg,hZ,d];exact g
 ·rw[cg,e,RV,pg (QR _),Ss (by rw[lp b [s] _ (QR _)];simp;omega),List.filter_nil,Rl,dx (fun j c=>f j (io (RH.1 c).1))]
  exact h.o n m
theorem rU.push(h:rU z0 b i a)(s:Sm)(f:∀o,aO o s.k=o+1)(q:∀j,j<b.length->z3 j=z0 j)(n:z3 b.length=[]):rU z3 (b++[s]) i (a++[i.length]):=by
 have e:=ri b s;rw[f,f,QW (by omega),rt (QR _) (by omega)]at e;have u:=h.b
 have m:∀p:Nat->Bool,([b.length].filter p).flatMap z3=[]:=fun p=>by
  rw[List.flatMap_eq_nil_iff];intro j d;have:=Q9.1 (RH.1 d).1;rw[this];exact n
 refine⟨?_,?_,fun g t=>?_⟩
 ·rw[cg,e,Sh,h.l,dx (fun j d=>q j (io d))];simp[n]
 ·rw[cg,hZ,f];simp;omega
 ·rw[cg,e,RV,pg (QR _),Sh,m,Rl,dx (fun j d=>q j (io (RH.1 d).1))]
  simp only[List.length_append,List.length_cons,List.length_nil]at t
  by_cases c:g<a.length
  ·rw[Q7 c];exact h.o g c
  ·have r:g=a.length:=by omega
   rw[r,Q5 (QR _),RY,rt (QR _) (by omega),<-h.l];rfl
theorem rU.pop(h:rU z0 b i (a++[H]))(s:Sm)(m:∀o,aO o s.k=o-1)(n:∀j,j<b.length->z3 j=z0 j):rU z3 (b++[s]) (i.take H) a:=by
 have e:=ri b s;rw[m,m,QT (by omega),Rl]at e;have u:=h.b;simp only[List.length_append,List.length_cons,List.length_nil]at u;have v:bb b b.length-1=(a.length:Int):=by omega
 rw[v]at e;have d:=h.o a.length (by simp);rw[Q5 (QR _),RY]at d;have d:H=(((j8 b b.length).filter (fun j=>decide (bb b j<=(a.length:Int)))).flatMap z0).length:=by simpa using d
 refine⟨?_,?_,fun g w=>?_⟩
 ·rw[cg,e,dx (G:=z0) (fun j c=>n j (io (RH.1 c).1))]
  have q:=h.l;rw[Fi (f:=bb b) (a.length:Int) (j8 b b.length) (DD b _ (QR _)),Sh]at q;rw[q,d,So (QR _),RK]
 ·rw[cg,hZ,m];omega
 ·rw[cg,e,UG]
  have r:(j8 b b.length).filter (fun j=>decide (bb (b++[s]) j<=(g:Int))&&decide (bb b j<=(a.length:Int)))=(j8 b b.length).filter (fun j=>decide (bb b j<=(g:Int))) :=
   Uj (fun j c=>by
    rw[lp b [s] j (by have:=io c;omega)]
    by_cases p:bb b j<=(g:Int)
    ·have t:bb b j<=(a.length:Int):=by omega
     simp[p,t]
    ·simp[p])
  rw[r,dx (G:=z0) (fun j c=>n j (io (RH.1 c).1))];have:=h.o g (by simp;omega);rw[Q7 w]at this;exact this
def Dk(T:List Tk)(S:List Sm)(j:Nat):List ByteArray:=if((au S j).k.toList == [36,118])=true then bu T (au S j).h else []
def Hw(T:List Tk)(S:List Sm)(j:Nat):List ByteArray:=if((au S j).k.toList == [36,99])=true then bu T (au S j).h else []
def Gg(T:List Tk)(S:List Sm)(j:Nat):List ByteArray:=if((au S j).k.toList == [36,102])=true then [tS T ((au S j).h+1)] else []
def LD(T:List Tk)(S:List Sm)(j:Nat):List ByteArray:=if((bG T (au S j)).toList == [])=true then [] else [bG T (au S j)]
theorem nO(F:Nat->List ByteArray)(l:List Nat)(x:ByteArray):aJ (l.flatMap F) x=l.any (fun j=>aJ (F j) x):=by
 unfold aJ;rw[List.any_flatMap]
theorem iJ:aJ [] w=false:=rfl
theorem wm(m:List ByteArray)(x:ByteArray):aJ (M++m) x=(aJ M x||aJ m x):=by
 unfold aJ;rw[UW]
theorem ru:aJ [T] w=(T.toList==w.toList):=by simp[aJ]
theorem uy(q:Nat->Bool):(z7.filter zb).any q=z7.any (fun j=>zb j&&q j):=by
 rw[List.any_filter]
theorem GS:kZ f n w l=aJ ((j8 n l).flatMap (Dk f n)) w:=by
 rw[nO];unfold j8;rw[uy];unfold kZ jq;refine lm (fun j a=>?_);unfold pG Dk;rw[nR.2]
 cases h:((au n j).k.toList == [36,118])
 ·rw[QT (by simp),iJ];simp
 ·rw[QW rfl];simp[Bool.and_comm]
theorem tO:eF f n w l=aJ ((List.range l).flatMap (Hw f n)) w:=by
 rw[nO];unfold eF jq;refine lm (fun j a=>?_);unfold pG Hw;rw[nR.1]
 cases h:((au n j).k.toList == [36,99])
 ·rw[QT (by simp),iJ];simp
 ·rw[QW rfl];simp
theorem DG:jq f n ⟨#[36,118]⟩ w l false=aJ ((List.range l).flatMap (Dk f n)) w:=by
 rw[nO];unfold jq;refine lm (fun j a=>?_);unfold pG Dk;rw[nR.2]
 cases h:((au n j).k.toList == [36,118])
 ·rw[QT (by simp),iJ];simp
 ·rw[QW rfl];simp
theorem Ns:(match z7.find? zb with | some j=>(j:Int) | none=>-1)=-1 ↔ z7.any zb=false:=by
 cases h:z7.find? zb with
 | none=>simp only[true_iff];rw[TH];rw[Sk]at h;exact h
 | some j =>
  have a:=Tm h;have b:=Rz h;have c:z7.any zb=true:=RC.2 ⟨j,b,a⟩;rw[c];simp only[Bool.true_eq_false,iff_false];intro d;have:(0:Int)<=(j:Int):=by omega
  omega
theorem Gl:decide (0<=(match z7.find? zb with | some j=>(j:Int) | none=>-1))=z7.any zb:=by
 cases h:z7.find? zb with
 | none =>
  have:=(Ns z7 zb).1 (by rw[h]);rw[this];rfl
 | some j =>
  have a:z7.any zb=true:=RC.2 ⟨j,Rz h,Tm h⟩;rw[a];simp
theorem sQ:decide (0<=bE f n w l)=aJ ((List.range l).flatMap (LD f n)) w:=by
 rw[nO];unfold bE;refine(Gl (List.range l) (qL f n w)).trans ?_;refine lm (fun j a=>?_);unfold qL LD
 cases h:((bG f (au n j)).toList == [])
 ·rw[QT (by simp),ru];simp
 ·rw[QW rfl,iJ];simp
theorem Im:decide (0<=gg f n w l)=aJ ((j8 n l).flatMap (Gg f n)) w:=by
 rw[nO];unfold j8;rw[uy];unfold gg;refine(Gl (List.range l) (tV f n w l)).trans ?_;refine lm (fun j a=>?_);unfold tV Gg
 cases h:((au n j).k.toList == [36,102])
 ·rw[QT (by simp),iJ];simp
 ·rw[QW rfl,ru];simp[Bool.and_comm]
theorem Ao(d:f.length<=100000)(b:∀j,j<f.length->bh f (aj f) j=0):il f (aj f) (aj f).length/\l8 f (aj f) (aj f).length:=by
 have p:=fw f;have g:(aj f).length<=f.length:=oG f f.length;generalize aj f=S at *;have c:=fun j (a:j<S.length)=>Dq p j a (fun q _ e=>b q (by have:=(p.s j a).2;omega))
 refine⟨⟨QR _,by omega,d,fun j a=>(c j a).1,fun j a=>(c j a).2.1,fun j a=>?_⟩,fun j a=>(c j a).2.2⟩;have:=(p.s j a).1.lt;have:=(p.s j a).2;omega
structure rR(T:List Tk)(S:List Sm)(d:Db):Prop where
 con:d.U8=(List.range S.length).flatMap (Hw T S)
 var:∀x,aJ d.U9 x=aJ ((List.range S.length).flatMap (Dk T S)) x
 act:rU (Dk T S) S d.Vf (d.blocks.map (·.1))
 typ:rU (Gg T S) S d.Vi (d.blocks.map (·.2))
def jH(T:List Tk)(S:List Sm):List ByteArray:=(List.range S.length).flatMap (LD T S)
def eZ(l:List UInt8)(k:Int):Prop:=(l=[36,99]/\k=7)∨(l=[36,118]/\k=8)∨(l=[36,100]/\k=1)∨(l=[36,102]/\k=2)∨(l=[36,101]/\k=3)∨(l=[36,97]/\k=4)∨(l=[36,112]/\k=5)
theorem eZ.c:eZ [36,99] 7:=by simp[eZ]
theorem eZ.v:eZ [36,118] 8:=by simp[eZ]
theorem eZ.d:eZ [36,100] 1:=by simp[eZ]
theorem eZ.f:eZ [36,102] 2:=by simp[eZ]
theorem eZ.e:eZ [36,101] 3:=by simp[eZ]
theorem eZ.a:eZ [36,97] 4:=by simp[eZ]
theorem eZ.p:eZ [36,112] 5:=by simp[eZ]
def kB(y:ByteArray):Bool:=!(y.toList == [36,61])
def tF(T:List Tk)(d:Db):Prop :=
 (fA T=T.length/\d.kind=0/\d.U6=[]/\d.Va=false/\d.Ve=jH T (aj T)) ∨
 (fA T+1=T.length/\d.kind=6/\d.U6=[]/\d.Va=false/\d.Ve=jH T (aj T)++[tS T (fA T)]/\((tS T (fA T)).toList == [])=false/\ii (tS T (fA T)) ⟨#[36]⟩=false) ∨
 ∃(key:ByteArray) (head:Nat) (B:List ByteArray),ew T (fA T)=(key,head)/\fA T<head/\head<=T.length/\eZ key.toList d.kind/\fa T head T.length=B/\d.Va=aJ B ⟨#[36,61]⟩/\d.U6=B.takeWhile kB/\(d.Va=true->d.kind=5/\d.U6≠[]) /\
  d.Ve=jH T (aj T)++(if(aC key||aG key)=true then [tS T (fA T)] else [])/\((aC key||aG key)=true->((tS T (fA T)).toList == [])=false)
theorem tF.none(a:fA x=x.length)(b:y.kind=0)(c:y.U6=[])(d:y.Va=false)(e:y.Ve=jH x (aj x)):tF x y:=Q1 ⟨a,b,c,d,e⟩
theorem tF.lab(a:fA x+1=x.length)(b:y.kind=6)(c:y.U6=[])(d:y.Va=false)(e:y.Ve=jH x (aj x)++[tS x (fA x)])(f:((tS x (fA x)).toList == [])=false)(g:ii (tS x (fA x)) ⟨#[36]⟩=false):tF x y:=QV (Q1 ⟨a,b,c,d,e,f,g⟩)
theorem tF.body(b:ew x (fA x)=(T,v))(c:fA x<v)(d:v<=x.length)(e:eZ T.toList y.kind)(f:fa x v x.length=M)(g:y.Va=aJ M ⟨#[36,61]⟩)(h:y.U6=M.takeWhile kB)(i:y.Va=true->y.kind=5/\y.U6≠[])(j:y.Ve=jH x (aj x)++(if(aC T||aG T)=true then [tS x (fA x)] else []))(a:(aC T||aG T)=true->((tS x (fA x)).toList == [])=false):tF x y:=QV (QV ⟨T,v,M,b,c,d,e,f,g,h,i,j,a⟩)
theorem rU.congr(h:rU z0 b i a)(d:∀j,j<b.length->z3 j=z0 j):rU z3 b i a :=
 ⟨by rw[dx (G:=z0) (fun j c=>d j (io c))];exact h.l,h.b,fun f e=>by rw[dx (G:=z0) (fun j c=>d j (io (RH.1 c).1))];exact h.o f e⟩
section
variable {T U:List Tk} {S M:List Sm}
theorem oZ(b:il T S S.length)(j:Nat)(a:j<S.length):Dk (T++U) (S++M) j=Dk T S j:=by
 unfold Dk;rw[jL S M j a]
 split
 ·next h=>rw[sg T U _ (b.v j a h)]
 ·rfl
theorem vl(b:il T S S.length)(j:Nat)(a:j<S.length):Hw (T++U) (S++M) j=Hw T S j:=by
 unfold Hw;rw[jL S M j a]
 split
 ·next h=>rw[sg T U _ (b.c j a h)]
 ·rfl
theorem vm(b:l8 T S S.length)(j:Nat)(a:j<S.length):Gg (T++U) (S++M) j=Gg T S j:=by
 unfold Gg;rw[jL S M j a]
 split
 ·next h=>rw[fI T U _ (b j a h)]
 ·rfl
theorem Gs(c:il T S S.length)(j:Nat)(b:j<S.length):LD (T++U) (S++M) j=LD T S j:=by
 unfold LD;rw[jL S M j b,yK _ (c.a j b)]
end
theorem oL(h:∀j,j<H->z3 j=z0 j):(List.range H).flatMap z3=(List.range H).flatMap z0:=dx (fun j a=>h j (Ra.1 a))
theorem fe(h:∀j,j<H->z3 j=z0 j):(List.range (H+1)).flatMap z3=(List.range H).flatMap z0++z3 H:=by
 rw[R6,Sh,oL h];simp
theorem qn(c:il x b b.length):jH (x++z1) b=jH x b:=by
 unfold jH;exact oL (fun j a=>by have:=Gs (U:=z1) (M:=[]) c j a;rw[Rl]at this;exact this)
theorem tZ(c:il x b b.length):jH (x++z1) (b++[L])=jH x b++LD (x++z1) (b++[L]) b.length:=by
 unfold jH;rw[cg];exact fe (fun j a=>Gs c j a)
theorem rR.same(h:rR x b y)(e:il x b b.length)(m:l8 x b b.length)(f:zt.U8=y.U8)(g:zt.U9=y.U9)(i:zt.Vf=y.Vf)(k:zt.Vi=y.Vi)(c:zt.blocks=y.blocks):rR (x++z1) b zt:=by
 have d:∀j,j<b.length->Dk (x++z1) b j=Dk x b j:=fun j a=>by have:=oZ (U:=z1) (M:=[]) e j a;rw[Rl]at this;exact this
 have l:∀j,j<b.length->Hw (x++z1) b j=Hw x b j:=fun j a=>by have:=vl (U:=z1) (M:=[]) e j a;rw[Rl]at this;exact this
 have n:∀j,j<b.length->Gg (x++z1) b j=Gg x b j:=fun j a=>by have:=vm (U:=z1) (M:=[]) m j a;rw[Rl]at this;exact this
 exact⟨by rw[f,oL l];exact h.con,fun o=>by rw[g,oL d];exact h.var o,by rw[i,c];exact h.act.congr d,by rw[k,c];exact h.typ.congr n⟩
theorem lX:au (n++[L]) n.length=L:=uk n L
theorem rR.close(h:rR x b y)(d:il x b b.length)(n:l8 x b b.length)(s:Sm)(f:∀o,aO o s.k=o)(g:zt.U8=y.U8++Hw (x++z1) (b++[s]) b.length)(i:∀c,aJ zt.U9 c=(aJ y.U9 c||aJ (Dk (x++z1) (b++[s]) b.length) c))(l:zt.Vf=y.Vf++Dk (x++z1) (b++[s]) b.length)(m:zt.Vi=y.Vi++Gg (x++z1) (b++[s]) b.length)(e:zt.blocks=y.blocks):rR (x++z1) (b++[s]) zt :=
 ⟨by rw[cg,fe (fun j a=>vl d j a),<-h.con];exact g,fun c=>by rw[cg,fe (fun j a=>oZ d j a),wm,<-h.var];exact i c,
  by rw[l,e];exact h.act.norm s f (fun j a=>oZ d j a),by rw[m,e];exact h.typ.norm s f (fun j a=>vm n j a)⟩
theorem Bk(h:f.length<=100000)(a:∀j,j<f.length->bh f (aj f) j=0):bh (f++[I]) (aj (f++[I])) f.length =
  if f.length=fA f then dw f (aj f) I.s (aj f).length
  else if f.length<(ew (f++[I]) (fA f)).2 then(if(aC I.s||aG I.s)=true then 0 else 14)
  else lW f (aj f) (ew (f++[I]) (fA f)).1 I.s (aj f).length (fa f (ew (f++[I]) (fA f)).2 f.length):=by
 obtain⟨d,k⟩:=Ao f h a;obtain⟨M,g,l⟩:=zl f [I];have p:=fw f;rw[g,EL];generalize aj f=S at *
 have i:i8 (S++M) f.length=S.length:=by
  unfold i8;rw[Ga f.length S M l];exact KY _ S S.length (fun q b=>⟨au S q,GN S q b,(p.s q b).2⟩) (fun s c=>by rw[Rx (QR _)]at c;cases c)
 unfold bh;rw[i,Bf S M _ (QR _),oV]
 by_cases e:f.length=kz S S.length
 ·rw[QW e,QW e,yB _ d]
 ·rw[QT e,QT e]
  split
  ·rfl
  ·next m=>rw[CR _ _ _ d k,F0 f [I] _ _ (by omega) (QR _)]
theorem De(h:rR x b y)(c:y.Ve=jH x b)(a:ByteArray):jC x b a b.length=dK y a:=by
 unfold jC dK;rw[sQ,tO,DG,<-h.con,<-h.var,c,TF];rfl
theorem J0(h:rR x b y)(c:y.Ve=jH x b)(a:ByteArray):(decide (0<=bE x b a b.length)||(eF x b a b.length||kZ x b a b.length))=dX y a:=by
 unfold dX;rw[sQ,tO,GS,<-h.con,<-h.act.l,c,TF];rfl
theorem Bv(h:rR x b y):bb b b.length=(y.blocks.length:Int):=by
 have:=h.act.b;rw[Ri]at this;exact this.symm
theorem rr(h:S.toList=o)(a:Int):aO a S=if(o == [36,125])=true then(if(o == [36,123])=true then a+1 else a)-1 else(if(o == [36,123])=true then a+1 else a):=by
 unfold aO;rw[h]
theorem kc{k:ByteArray}(h:k.toList=o):aC k=((o == [36,97])||(o == [36,112]))/\aG k=((o == [36,102])||(o == [36,101]))/\bS k=((o == [36,46])||(o == [36,123])||(o == [36,125])):=by
 unfold aC aG bS;rw[h];exact⟨rfl,rfl,rfl⟩
theorem Fm(h:S.toList=o):ii S ⟨#[36]⟩=ii ⟨o.toArray⟩ ⟨#[36]⟩:=by
 rw[oD (x:=S) (l:=o) (by rw[h];simp)]
theorem eZ.dep(h:eZ S.toList N):(∀o,aO o S=o)/\ii S ⟨#[36]⟩=true/\bS S=false:=by
 generalize hl:S.toList=l at h;have a:=fun o=>rr hl o
 have b:=Fm hl;have c:=(kc hl).2.2
 (rcases h with ⟨rfl,rfl⟩ | ⟨rfl,rfl⟩ | ⟨rfl,rfl⟩ | ⟨rfl,rfl⟩ | ⟨rfl,rfl⟩ | ⟨rfl,rfl⟩ | ⟨rfl,rfl⟩) <;> exact⟨fun o=>a o,b.trans (by decide +kernel),c⟩
section
variable {T:List Tk} {t:Tk} {d:Db}
theorem Cy(b:fA T=T.length)(a:ii t.s ⟨#[36]⟩=true):ew (T++[t]) (fA T)=(t.s,T.length+1):=by
 unfold ew;rw[b,oV,a];simp
theorem sO(a:ew T (fA T)=(S,H))(f:fA T<H)(g:H<=T.length)(d:eZ S.toList N):ew (T++[t]) (fA T)=(S,H):=by
 rw[<-a]
 by_cases h:fA T+1<T.length
 ·exact Ae T [t] _ h
 ·have e:ew T (fA T)=(tS T (fA T),fA T+1):=by
   unfold ew;rw[QW (by simp;right;omega)]
  rw[a]at e;have c:S=tS T (fA T):=congrArg Prod.fst e;have b:=d.dep.2.1;rw[c]at b;unfold ew;rw[fI T [t] _ (by omega),b];simp
theorem m8:fa f l f.length=(f.drop l).map (·.s):=by
 unfold fa;rw[Tu (by rw[RT];exact QR _)]
theorem KL(a:l<=T.length):fa (T++[I]) l (T++[I]).length=fa T l T.length++[I.s]:=by
 rw[m8,m8,Sg a];simp
theorem vO(L:List Tk)(t:Tk)(c:∀u∈L,(u.s.toList == [36,46])=false)(e:(t.s.toList == [36,46])=true):ke (L++[t])=(L.map (·.s)).takeWhile kB:=by
 induction L with
 | nil=>rw[Uu,ke,QW (tA e)];rfl
 | cons a L g =>
  have d:=c a (by simp);rw[Ti,ke,Tp]
  cases b:(a.s.toList == [36,61])
  ·rw[QT (by unfold mM;rw[d,b];simp),SN (by unfold kB;rw[b];rfl),g (fun u f=>c u (by simp[f]))]
  ·rw[QW (by unfold mM;rw[b];rfl),Tl (by unfold kB;rw[b];simp)]
theorem yU(a:fA f<=l):∀u∈f.drop l,bS u.s=false:=by
 intro u c;obtain⟨q,b,e⟩:=R0 c;rw[RT]at b;have:=(fw f).n (l+q) (by unfold fA at a;omega) (by omega);rw[TI]at e;unfold tS at this;rw[QQ,QP (by omega)]at this;rw[<-e];exact this
theorem Lo(h:aJ M ⟨#[36,61]⟩=false):∀y∈M,kB y=true:=by
 intro y a;unfold aJ at h;rw[TH]at h;have:=h y a;have e:(⟨#[36,61]⟩:ByteArray).toList=[36,61]:=by decide +kernel
 rw[e]at this;unfold kB;simpa using this
theorem Ka(B:List ByteArray)(h:∀y∈B,kB y=true):B.takeWhile kB=B:=by
 induction B with
 | nil=>rfl
 | cons a B c=>rw[SN (h a (by simp)),c (fun y b=>h y (by simp[b]))]
theorem vp(h:aJ M ⟨#[36,61]⟩=false):M.takeWhile kB=M:=Ka M (Lo M h)
theorem MF(B:List ByteArray)(y:ByteArray)(h:aJ B ⟨#[36,61]⟩=true):(B++[y]).takeWhile kB=B.takeWhile kB:=by
 have e:(⟨#[36,61]⟩:ByteArray).toList=[36,61]:=by decide +kernel
 induction B with
 | nil=>cases h
 | cons a B d =>
  rw[Ti]
  cases b:(a.toList == [36,61])
  ·have c:aJ B ⟨#[36,61]⟩=true:=by
    unfold aJ at h ⊢;rw[TE,e,b,Sp]at h;rw[e];exact h
   rw[SN (by unfold kB;rw[b];rfl),SN (by unfold kB;rw[b];rfl),d c]
  ·rw[Tl (by unfold kB;rw[b];simp),Tl (by unfold kB;rw[b];simp)]
end
theorem ci{m:List UInt8}(h:(S.toList==o)=true):(S.toList==m)=(o==m):=by
 have:S.toList=o:=by simpa using h
 rw[this]
theorem dd(h:(S.toList==o)=true):S.toList=o:=by simpa using h
section
variable {T:List Tk} {t:Tk} {d:Db}
theorem qo(d:fA T=T.length)(c:bS t.s=true):aj (T++[t])=aj T++[⟨fA T,T.length+1,T.length+1,t.s⟩]/\fA (T++[t])=(T++[t]).length:=by
 obtain⟨a,b⟩:=oR T t;rw[QW c,Cy d (kM c).1]at a;rw[QW c]at b;exact⟨a,by rw[b];simp⟩
theorem mF(c:bS t.s=false):aj (T++[t])=aj T/\fA (T++[t])=fA T:=by
 obtain⟨a,b⟩:=oR T t;rw[QT (by rw[c];simp)]at a b;exact⟨a,b⟩
theorem OF{S:List Sm}{s:Sm}{U:List Tk}(a:(s.k.toList == [36,118])=false)(b:(s.k.toList == [36,99])=false)(c:(s.k.toList == [36,102])=false):Dk U (S++[s]) S.length=[]/\Hw U (S++[s]) S.length=[]/\Gg U (S++[s]) S.length=[]:=by
 unfold Dk Hw Gg;rw[lX,a,b,c];exact⟨rfl,rfl,rfl⟩
theorem Ep{S:List Sm}{s:Sm}{U:List Tk}(h:(aC s.k||aG s.k)=false):LD U (S++[s]) S.length=[]:=by
 have e:bG U s=⟨#[]⟩:=by unfold bG;rw[h,QT (by simp)]
 unfold LD;rw[lX,e,QW oI]
theorem NE(h:(aC z2.k||aG z2.k)=true)(c:((tS x z2.a).toList == [])=false):LD x (b++[z2]) b.length=[tS x z2.a]:=by
 have e:bG x z2=tS x z2.a:=by unfold bG;rw[h,QW rfl]
 unfold LD;rw[lX,e,QT (by rw[c];simp)]
theorem Fl(w:il T (aj T) (aj T).length)(W:l8 T (aj T) (aj T).length)(I:rR T (aj T) d)(N:fA T=T.length)(hk:d.kind=0)(G:d.U6=[])(B:d.Va=false)(P:d.Ve=jH T (aj T))(hx:(t.s.toList == [])=false) :
  dw T (aj T) t.s (aj T).length=(av d t.s).1/\((av d t.s).1=0->rR (T++[t]) (aj (T++[t])) (av d t.s).2/\tF (T++[t]) (av d t.s).2):=by
 have F:=Bv I;have ac:=De I P t.s
 -- a keyword of a statement without a ad
 have H:∀{n:Int} {V:Db},eZ t.s.toList n->(aC t.s||aG t.s)=false->V={ d with kind:=n }->rR (T++[t]) (aj (T++[t])) V/\tF (T++[t]) V:=fun {n V} u J e=>by
  obtain⟨y,E⟩:=mF (T:=T) (t:=t) u.dep.2.2;have O:ew (T++[t]) (fA (T++[t]))=(t.s,T.length+1):=by rw[E];exact Cy N u.dep.2.1
  have hB:fa (T++[t]) (T.length+1) (T++[t]).length=[]:=by rw[m8];simp
  subst e;refine⟨by rw[y];exact I.same w W rfl rfl rfl rfl rfl,tF.body t.s (T.length+1) [] O (by rw[E];omega) (by simp) u hB (by rw[iJ];exact B) G (fun h=>by rw[B]at h;cases h) ?_ (fun h=>by rw[J]at h;cases h)⟩;rw[y,J,QT (by simp),Rl,qn w];exact P
 cases b:(t.s.toList == [36,123])
 ·cases f:(t.s.toList == [36,125])
  ·cases l:(t.s.toList == [36,99])
   ·cases g:(t.s.toList == [36,118])
    ·cases m:(t.s.toList == [36,100])
     ·cases z:(aC t.s||aG t.s)
      ·have h7:(t.s.toList == [36,102])=false/\(t.s.toList == [36,101])=false/\(t.s.toList == [36,97])=false/\(t.s.toList == [36,112])=false:=by
        unfold aC aG at z;simp only[Bool.or_eq_false_iff]at z;exact⟨z.2.1,z.2.2,z.1.1,z.1.2⟩
       obtain⟨g1,g2,g3,g4⟩:=h7
       have k:av d t.s=bI d t.s:=by
        unfold av;rw[b,f,l,g,m,g1,g2,g3,g4];simp
       have i:dw T (aj T) t.s (aj T).length=if ii t.s ⟨#[36]⟩=true then 8 else if gG t.s=false then 12 else if dK d t.s=true then 13 else 0:=by
        unfold dw;rw[b,f,l,g,m,z,ac];simp
       rw[k,i,ia];unfold bI
       cases k1:dA t.s
       ·cases k2:gG t.s
        ·exact⟨rfl,fun h=>by simp at h⟩
        ·cases k3:dK d t.s
         ·refine⟨rfl,fun _=>?_⟩
          have C:bS t.s=false:=by
           cases L:bS t.s
           ·rfl
           ·have:=(kM L).1
            rw[ia,k1]at this;cases this
          obtain⟨y,E⟩:=mF (T:=T) (t:=t) C;have Y:tS (T++[t]) (fA (T++[t]))=t.s:=by rw[E,N,oV]
          simp only[Bool.false_eq_true,if_false];exact⟨by rw[y];exact I.same w W rfl rfl rfl rfl rfl,tF.lab (by rw[E,N];simp) rfl G B (by rw[Y,y,qn w,<-P];rfl) (by rw[Y];exact hx) (by rw[Y,ia];exact k1)⟩
         ·exact⟨rfl,fun h=>by simp at h⟩
       ·exact⟨rfl,fun h=>by simp at h⟩
      ·have k:av d t.s=(11,d):=by
        unfold av;rw[b,f,l,g,m];unfold aC aG at z;rw[QT (by simp),QT (by simp),QT (by simp),QT (by simp),QT (by simp),QW];simp only[Bool.or_eq_true]at z
        rcases z with (h | h) | (h | h)
        ·exact QV (QV (Q1 h))
        ·exact QV (QV (QV h))
        ·exact Q1 h
        ·exact QV (Q1 h)
       have i:dw T (aj T) t.s (aj T).length=11:=by
        unfold dw;rw[b,f,l,g,m,z];simp
       rw[k,i];exact⟨rfl,fun h=>by cases h⟩
     ·have u:=eZ.d
      rw[<-dd m]at u
      have k:av d t.s=(0,{ d with kind:=1 }):=by
       unfold av;rw[b,f,l,g,m];simp
      have i:dw T (aj T) t.s (aj T).length=0:=by
       unfold dw;rw[m];simp
      rw[k,i];exact⟨rfl,fun _=>H u (by rw[(kc (dd m)).1,(kc (dd m)).2.1];decide) rfl⟩
    ·have u:=eZ.v
     rw[<-dd g]at u
     have k:av d t.s=(0,{ d with kind:=8 }):=by
      unfold av;rw[b,f,l,g];simp
     have i:dw T (aj T) t.s (aj T).length=0:=by
      unfold dw;rw[g];simp
     rw[k,i];exact⟨rfl,fun _=>H u (by rw[(kc (dd g)).1,(kc (dd g)).2.1];decide) rfl⟩
   ·have u:=eZ.c
    rw[<-dd l]at u;have g:(t.s.toList == [36,118])=false:=by rw[ci l];decide
    have m:(t.s.toList == [36,100])=false:=by rw[ci l];decide
    by_cases A:0<d.blocks.length
    ·have k:av d t.s=(10,d):=by
      unfold av;rw[b,f,l];simp[A]
     have i:dw T (aj T) t.s (aj T).length=10:=by
      unfold dw;rw[b,f,l,g,m,F,SM (show(0:Int)<(d.blocks.length:Int) by omega)];simp
     rw[k,i];exact⟨rfl,fun h=>by cases h⟩
    ·have k:av d t.s=(0,{ d with kind:=7 }):=by
      unfold av;rw[b,f,l,QT (by simp),QT (by simp),QW rfl,QT A]
     have i:dw T (aj T) t.s (aj T).length=0:=by
      unfold dw;rw[b,f,l,g,m,F,Sb (show ¬(0:Int)<(d.blocks.length:Int) by omega)];simp
     rw[k,i];exact⟨rfl,fun _=>H u (by rw[(kc (dd l)).1,(kc (dd l)).2.1];decide) rfl⟩
  ·have g:(t.s.toList == [36,118])=false:=by rw[ci f];decide
   have m:(t.s.toList == [36,100])=false:=by rw[ci f];decide
   have L:bS t.s=true:=by rw[(kc (dd f)).2.2];decide
   have k:av d t.s=(match d.blocks.getLast? with | none=>(9,d) | some p=>(0,cw d p)):=by
    unfold av;rw[b,f,QT (by simp),QW rfl];rfl
   cases A:d.blocks.getLast? with
   | none =>
    have K:d.blocks.length=0:=by rw[List.getLast?_eq_none_iff]at A;rw[A];rfl
    have i:dw T (aj T) t.s (aj T).length=9:=by
     unfold dw;rw[b,f,g,m,F,K];simp
    rw[k,i,A];exact⟨rfl,fun h=>by cases h⟩
   | some q =>
    have C:d.blocks≠[]:=fun e=>by rw[e]at A;cases A
    have Z:d.blocks=d.blocks.dropLast++[q]:=by
     have:=Uv C;rw[Ta C]at A
     cases A
     exact this.symm
    have K:0<d.blocks.length:=TU.2 C
    have i:dw T (aj T) t.s (aj T).length=0:=by
     unfold dw;rw[b,f,g,m,F,show((d.blocks.length:Int)==0)=false by simp;omega];simp
    rw[k,i,A];refine⟨rfl,fun _=>?_⟩;obtain⟨y,E⟩:=qo (T:=T) (t:=t) N L;have Q:∀o,aO o t.s=o-1:=fun o=>by rw[rr (dd f)];rfl
    obtain⟨X,n2,n3⟩:=OF (S:=aj T) (s:=⟨fA T,T.length+1,T.length+1,t.s⟩) (U:=T++[t]) g (by show(t.s.toList==_)=false;rw[ci f];decide) (by show(t.s.toList==_)=false;rw[ci f];decide);have hn:=Ep (S:=aj T) (s:=⟨fA T,T.length+1,T.length+1,t.s⟩) (U:=T++[t]) (by show(aC t.s||aG t.s)=false;rw[(kc (dd f)).1,(kc (dd f)).2.1];decide);have J:=I.act;have hy:=I.typ;rw[Z,Ry]at J hy
    have M:(cw d q).U8=d.U8/\(cw d q).U9=d.U9/\(cw d q).Vf=d.Vf.take q.1/\(cw d q).Vi=d.Vi.take q.2/\(cw d q).blocks=d.blocks.dropLast/\(cw d q).kind=d.kind/\(cw d q).U6=d.U6/\(cw d q).Va=d.Va/\(cw d q).Ve=d.Ve:=by
     unfold cw dq
     split <;> exact⟨rfl,rfl,rfl,rfl,rfl,rfl,rfl,rfl,rfl⟩
    obtain⟨d1,d2,d3,d4,d5,d6,d7,d8,d9⟩:=M;simp only;rw[y];refine⟨⟨?_,fun x=>?_,?_,?_⟩,tF.none E (by rw[d6];exact hk) (by rw[d7];exact G) (by rw[d8];exact B) ?_⟩
    ·rw[d1,cg,fe (fun j r=>vl w j r),n2,Rl];exact I.con
    ·rw[d2,cg,fe (fun j r=>oZ w j r),X,Rl];exact I.var x
    ·rw[d3,d5];exact J.pop ⟨fA T,T.length+1,T.length+1,t.s⟩ Q (fun j r=>oZ w j r)
    ·rw[d4,d5];exact hy.pop ⟨fA T,T.length+1,T.length+1,t.s⟩ Q (fun j r=>vm W j r)
    ·rw[d9,y,tZ _ w,hn,Rl];exact P
 ·have g:(t.s.toList == [36,118])=false:=by rw[ci b];decide
  have L:bS t.s=true:=by rw[(kc (dd b)).2.2];decide
  have k:av d t.s=(0,{ d with blocks:=d.blocks++[(d.Vf.length,d.Vi.length)],rbl:=d.rbl++[d.Vn.length] }):=by
   unfold av;rw[b,QW rfl]
  have i:dw T (aj T) t.s (aj T).length=0:=by
   unfold dw;rw[b];simp
  rw[k,i];refine⟨rfl,fun _=>?_⟩;obtain⟨y,E⟩:=qo (T:=T) (t:=t) N L;have Q:∀o,aO o t.s=o+1:=fun o=>by rw[rr (dd b)];rfl
  obtain⟨X,n2,n3⟩:=OF (S:=aj T) (s:=⟨fA T,T.length+1,T.length+1,t.s⟩) (U:=T++[t]) g (by show(t.s.toList==_)=false;rw[ci b];decide) (by show(t.s.toList==_)=false;rw[ci b];decide);have hn:=Ep (S:=aj T) (s:=⟨fA T,T.length+1,T.length+1,t.s⟩) (U:=T++[t]) (by show(aC t.s||aG t.s)=false;rw[(kc (dd b)).1,(kc (dd b)).2.1];decide);simp only;rw[y];refine⟨⟨?_,fun x=>?_,?_,?_⟩,tF.none E hk G B ?_⟩
  ·rw[cg,fe (fun j r=>vl w j r),n2,Rl];exact I.con
  ·rw[cg,fe (fun j r=>oZ w j r),X,Rl];exact I.var x
  ·simp only[List.map_append,List.map_cons,List.map_nil]
   exact I.act.push ⟨fA T,T.length+1,T.length+1,t.s⟩ Q (fun j r=>oZ w j r) X
  ·simp only[List.map_append,List.map_cons,List.map_nil]
   exact I.typ.push ⟨fA T,T.length+1,T.length+1,t.s⟩ Q (fun j r=>vm W j r) n3
  ·rw[y,tZ _ w,hn,Rl];exact P
theorem Mv(z:il T (aj T) (aj T).length)(A:l8 T (aj T) (aj T).length)(I:rR T (aj T) d)(y:fA T+1=T.length)(v:d.U6=[])(k:d.Va=false)(D:d.Ve=jH T (aj T)++[tS T (fA T)])(B:((tS T (fA T)).toList == [])=false)(u:ii (tS T (fA T)) ⟨#[36]⟩=false) :
  ew (T++[t]) (fA T)=(t.s,T.length+1)/\(if(aC t.s||aG t.s)=true then(0:Int) else 14)=(aH d t.s).1/\((aH d t.s).1=0->rR (T++[t]) (aj (T++[t])) (aH d t.s).2/\tF (T++[t]) (aH d t.s).2):=by
 have i:ew (T++[t]) (fA T)=(t.s,T.length+1):=by
  unfold ew;rw[fI T [t] _ (by omega),u,QT (by simp;omega),y,oV,<-y]
 have g:∀{n:Int},eZ t.s.toList n->(aC t.s||aG t.s)=true->rR (T++[t]) (aj (T++[t])) { d with kind:=n }/\tF (T++[t]) { d with kind:=n }:=fun {n} c b=>by
  obtain⟨w,l⟩:=mF (T:=T) (t:=t) c.dep.2.2;have C:fa (T++[t]) (T.length+1) (T++[t]).length=[]:=by rw[m8];simp
  have x:tS (T++[t]) (fA (T++[t]))=tS T (fA T):=by rw[l,fI T [t] _ (by omega)]
  refine⟨by rw[w];exact I.same z A rfl rfl rfl rfl rfl,tF.body t.s (T.length+1) [] (by rw[l];exact i) (by rw[l];omega) (by simp) c C (by rw[iJ];exact k) v (fun h=>by rw[show({ d with kind:=n }:Db).Va=d.Va from rfl,k]at h;cases h) ?_ (fun _=>by rw[x];exact B)⟩;rw[w,b,QW rfl,qn z,x];exact D
 refine⟨i,?_⟩;unfold aH
 cases m:(t.s.toList == [36,102])
 ·cases o:(t.s.toList == [36,101])
  ·cases q:(t.s.toList == [36,97])
   ·cases r:(t.s.toList == [36,112])
    ·have b:(aC t.s||aG t.s)=false:=by unfold aC aG;rw[m,o,q,r];rfl
     rw[b];exact⟨rfl,fun h=>by simp at h⟩
    ·have b:(aC t.s||aG t.s)=true:=by unfold aC aG;rw[r];simp
     have c:=eZ.p;rw[<-dd r]at c;rw[b];exact⟨rfl,fun _=>g c b⟩
   ·have b:(aC t.s||aG t.s)=true:=by unfold aC aG;rw[q];simp
    have c:=eZ.a;rw[<-dd q]at c;rw[b];exact⟨rfl,fun _=>g c b⟩
  ·have b:(aC t.s||aG t.s)=true:=by unfold aC aG;rw[o];simp
   have c:=eZ.e;rw[<-dd o]at c;rw[b];exact⟨rfl,fun _=>g c b⟩
 ·have b:(aC t.s||aG t.s)=true:=by unfold aC aG;rw[m];simp
  have c:=eZ.f;rw[<-dd m]at c;rw[b];exact⟨rfl,fun _=>g c b⟩
end
theorem BS(l:List ByteArray):∀v x,aJ (dR v l) x=(aJ v x||aJ l x):=by
 induction l with
 | nil=>intro v x;rw[iJ,Sz];rfl
 | cons a l f =>
  intro v x;have e:dR v (a :: l)=dR (if aJ v a=true then v else v++[a]) l:=rfl;have b:aJ (a :: l) x=((a.toList==x.toList)||aJ l x):=rfl;rw[e,f,b]
  by_cases h:aJ v a=true
  ·rw[QW h]
   cases c:(a.toList==x.toList)
   ·rw[Sp]
   ·have d:aJ v x=true:=by
     have:a.toList=x.toList:=by simpa using c
     unfold aJ at h ⊢;rw[<-this];exact h
    rw[d];rfl
  ·rw[QT h,wm,ru,TF]
section
variable {T:List Tk} {t:Tk} {d:Db}
theorem qA(b:eZ o d.kind)(x:ByteArray)(p:Pl):aX d x p =
  if(x.toList == [36,46])=true then lL d p
  else if(x.toList == [36,61])=true/\(d.kind==5)=true/\d.Va=false then b7 d
  else if dA x=true then(8,d)
  else if d.Va=true then(0,{ d with Vh:=d.Vh++[(x,p)] })
  else if(aZ d x==0)=true then(0,{ d with U6:=d.U6++[x] })
  else(aZ d x,d):=by
 have a:(d.kind==0)=false/\(d.kind==6)=false:=by
  generalize d.kind=k at b
  (rcases b with ⟨rfl,rfl⟩ | ⟨rfl,rfl⟩ | ⟨rfl,rfl⟩ | ⟨rfl,rfl⟩ | ⟨rfl,rfl⟩ | ⟨rfl,rfl⟩ | ⟨rfl,rfl⟩) <;> exact⟨by decide,by decide⟩
 unfold aX;rw[a.1,a.2,QT (by simp),QT (by simp)]
theorem O8(a:eZ o N):(N==5)=(o == [36,112]):=by(rcases a with ⟨rfl,rfl⟩ | ⟨rfl,rfl⟩ | ⟨rfl,rfl⟩ | ⟨rfl,rfl⟩ | ⟨rfl,rfl⟩ | ⟨rfl,rfl⟩ | ⟨rfl,rfl⟩) <;> decide
theorem KT(I:rR T (aj T) d)(j:eZ S.toList d.kind)(c:d.U6=i)(m:(aC S||aG S)=false->d.Ve=jH T (aj T))(x:ByteArray) :
  (if((S.toList == [36,99])||(S.toList == [36,118]))=true then jW T (aj T) x (aj T).length (S.toList == [36,99]) i else jm T (aj T) S x (aj T).length i)=aZ d x:=by
 have b:=fun h=>De I (m h) x
 have a:=fun h=>J0 I (m h) x
 have e:kZ T (aj T) x (aj T).length=aJ d.Vf x:=by rw[GS,<-I.act.l]
 have f:eF T (aj T) x (aj T).length=aJ d.U8 x:=by rw[tO,<-I.con]
 have g:decide (0<=gg T (aj T) x (aj T).length)=aJ d.Vi x:=by rw[Im,<-I.typ.l]
 obtain⟨n,o,-⟩:=kc (k:=S) rfl;unfold jW jm aZ iY iZ fC fy;rw[c]
 have p:(gg T (aj T) x (aj T).length<0) ↔ aJ d.Vi x=false:=by
  rw[<-g];simp
 have q:(0<=gg T (aj T) x (aj T).length) ↔ aJ d.Vi x=true:=by
  rw[<-g];simp
 generalize hkl:S.toList=l at *;generalize d.kind=k at j ⊢;simp only[e,f,p,q];rw[n,o]at b a
 rcases j with ⟨rfl,rfl⟩ | ⟨rfl,rfl⟩ | ⟨rfl,rfl⟩ | ⟨rfl,rfl⟩ | ⟨rfl,rfl⟩ | ⟨rfl,rfl⟩ | ⟨rfl,rfl⟩
 ·have b:=b (by decide)
  rw[b];simp only[show(([36,99]:List UInt8) == [36,99])=true from by decide,show((7:Int)==7)=true from rfl,Bool.true_or,if_true,Bool.true_and,Bool.not_true,Bool.false_and,Bool.false_eq_true,if_false]
  cases aJ i x <;> cases dK d x <;> simp
 ·have a:=a (by decide)
  rw[e,f]at a;rw[a];simp only[show(([36,118]:List UInt8) == [36,99])=false from by decide,show(([36,118]:List UInt8) == [36,118])=true from by decide,show((8:Int)==7)=false from rfl,show((8:Int)==8)=true from rfl,Bool.or_true,if_true,Bool.false_and,Bool.not_false,Bool.true_and,Bool.false_eq_true,if_false]
  cases aJ i x <;> cases dX d x <;> simp
 ·simp only[show(([36,100]:List UInt8) == [36,99])=false from by decide,show(([36,100]:List UInt8) == [36,118])=false from by decide,show(([36,100]:List UInt8) == [36,100])=true from by decide,show((1:Int)==7)=false from rfl,show((1:Int)==8)=false from rfl,show((1:Int)==1)=true from rfl,Bool.or_false,if_true,Bool.false_eq_true,if_false]
 ·simp only[show(([36,102]:List UInt8) == [36,99])=false from by decide,show(([36,102]:List UInt8) == [36,118])=false from by decide,show(([36,102]:List UInt8) == [36,100])=false from by decide,show(([36,102]:List UInt8) == [36,102])=true from by decide,show((2:Int)==7)=false from rfl,show((2:Int)==8)=false from rfl,show((2:Int)==1)=false from rfl,show((2:Int)==2)=true from rfl,Bool.or_false,if_true,Bool.false_eq_true,if_false,beq_iff_eq]
 ·simp only[show(([36,101]:List UInt8) == [36,99])=false from by decide,show(([36,101]:List UInt8) == [36,118])=false from by decide,show(([36,101]:List UInt8) == [36,100])=false from by decide,show(([36,101]:List UInt8) == [36,102])=false from by decide,show((3:Int)==7)=false from rfl,show((3:Int)==8)=false from rfl,show((3:Int)==1)=false from rfl,show((3:Int)==2)=false from rfl,Bool.or_false,Bool.false_eq_true,if_false,beq_iff_eq]
 ·simp only[show(([36,97]:List UInt8) == [36,99])=false from by decide,show(([36,97]:List UInt8) == [36,118])=false from by decide,show(([36,97]:List UInt8) == [36,100])=false from by decide,show(([36,97]:List UInt8) == [36,102])=false from by decide,show((4:Int)==7)=false from rfl,show((4:Int)==8)=false from rfl,show((4:Int)==1)=false from rfl,show((4:Int)==2)=false from rfl,Bool.or_false,Bool.false_eq_true,if_false,beq_iff_eq]
 ·simp only[show(([36,112]:List UInt8) == [36,99])=false from by decide,show(([36,112]:List UInt8) == [36,118])=false from by decide,show(([36,112]:List UInt8) == [36,100])=false from by decide,show(([36,112]:List UInt8) == [36,102])=false from by decide,show((5:Int)==7)=false from rfl,show((5:Int)==8)=false from rfl,show((5:Int)==1)=false from rfl,show((5:Int)==2)=false from rfl,Bool.or_false,Bool.false_eq_true,if_false,beq_iff_eq]
theorem OR(j:eZ S.toList d.kind)(b:d.Va=aJ i ⟨#[36,61]⟩)(e:d.U6=i.takeWhile kB)(c:d.Va=true->d.kind=5/\d.U6≠[])(p:Pl):ip S i=(lL d p).1/\((lL d p).1=0->(lL d p).2={ aY d p with kind:=0,label:=⟨#[]⟩,U6:=[],Va:=false,Vh:=[] }/\(d.kind=2->1<d.U6.length)):=by
 have o:d.Va=false->d.U6=i:=fun h=>by rw[e];exact vp i (by rw[<-b];exact h)
 have q:d.Va=true->0<i.length/\0<d.U6.length:=fun h=>by
  refine⟨?_,TU.2 (c h).2⟩;rw[b]at h
  cases i with
  | nil=>cases h
  | cons a i=>simp
 unfold ip lL l5;rw[<-b];generalize hkl:S.toList=l at *;generalize hkk:d.kind=k at *;clear e b
 cases g:d.Va
 ·rw[o g]
  generalize i.length=m
  (rcases j with ⟨rfl,rfl⟩ | ⟨rfl,rfl⟩ | ⟨rfl,rfl⟩ | ⟨rfl,rfl⟩ | ⟨rfl,rfl⟩ | ⟨rfl,rfl⟩ | ⟨rfl,rfl⟩) <;> simp <;> (repeat' split) <;> simp_all <;> omega
 ·obtain⟨s,t⟩:=q g
  have f:=(c g).1;subst f;generalize i.length=m at *;generalize d.U6.length=r at *
  rcases j with ⟨-,h⟩ | ⟨-,h⟩ | ⟨-,h⟩ | ⟨-,h⟩ | ⟨-,h⟩ | ⟨-,h⟩ | ⟨rfl,-⟩
  all_goals first | (exfalso;revert h;decide) | skip
  simp
  (repeat' split) <;> simp_all <;> omega
end
section
variable {T:List Tk} {t:Tk} {d:Db}
theorem Gu:∀{x:ByteArray},(x.toList == [36,46])=true->bS x=true/\ii x ⟨#[36]⟩=true:=fun {x} h=>by
 rw[(kc (dd h)).2.2,Fm (dd h)];decide +kernel
theorem Fk(ok:il T (aj T) (aj T).length)(fo:l8 T (aj T) (aj T).length)(I:rR T (aj T) d)(hk:ew T (fA T)=(S,H))(O:fA T<H)(Y:H<=T.length)(K:eZ S.toList d.kind)(J:fa T H T.length=i)(V:d.U6=i.takeWhile kB)(R:d.Va=true->d.kind=5/\d.U6≠[])(hl:d.Ve=jH T (aj T)++(if(aC S||aG S)=true then [tS T (fA T)] else []))(h0:(aC S||aG S)=true->((tS T (fA T)).toList == [])=false)(Z:(t.s.toList == [36,46])=true)(p:Pl)(F:d.kind=2->1<d.U6.length)(M:d.Va=false->d.U6=i)(w:y={ aY d p with kind:=0,label:=⟨#[]⟩,U6:=[],Va:=false,Vh:=[] }) :
  rR (T++[t]) (aj (T++[t])) y/\tF (T++[t]) y:=by
 obtain⟨X,-⟩:=Gu Z;obtain⟨B,W⟩:=oR T t;rw[QW X,sO hk O Y K]at B;rw[QW X]at W;simp only at B
 have v:bu (T++[t]) H=d.U6:=by
  unfold bu;rw[Sg Y,vO _ t (fun u hu=>?_) Z,V,<-J,m8];have:=yU T H (by omega) u hu;unfold bS at this;simp only[Bool.or_eq_false_iff]at this;exact this.1.1
 have C:=K.dep.1;obtain⟨s,G⟩:∃s:Sm,s=⟨fA T,T.length+1,H,S⟩:=⟨_,rfl⟩
 rw[<-G]at B;have r:s.k=S:=by rw[G]
 have A:s.h=H:=by rw[G]
 have U:s.a=fA T:=by rw[G]
 have v1:Dk (T++[t]) (aj T++[s]) (aj T).length=if(S.toList == [36,118])=true then d.U6 else []:=by
  unfold Dk;rw[lX,r,A,v]
 have v2:Hw (T++[t]) (aj T++[s]) (aj T).length=if(S.toList == [36,99])=true then d.U6 else []:=by
  unfold Hw;rw[lX,r,A,v]
 have v3:Gg (T++[t]) (aj T++[s]) (aj T).length=if(S.toList == [36,102])=true then [tS (T++[t]) (H+1)] else []:=by
  unfold Gg;rw[lX,r,A]
 have D:jH (T++[t]) (aj T++[s])=d.Ve:=by
  rw[tZ s ok,hl]
  congr 1
  cases L:(aC S||aG S)
  ·rw[QT (by simp)];exact Ep (by rw[r];exact L)
  ·have e:tS (T++[t]) s.a=tS T (fA T):=by rw[U,fI T [t] _ (by omega)]
   rw[QW rfl,<-e];exact NE (by rw[r];exact L) (by rw[e];exact h0 L)
 have Q:fA (T++[t])=(T++[t]).length:=by rw[W];simp
 have dv:y.U8=(aY d p).U8/\y.U9=(aY d p).U9/\y.Vf=(aY d p).Vf/\y.Vi=(aY d p).Vi/\y.blocks=(aY d p).blocks/\y.Ve=(aY d p).Ve:=by
  rw[w];exact⟨rfl,rfl,rfl,rfl,rfl,rfl⟩
 obtain⟨b,c,f,g,j,m⟩:=dv;rw[B]
 have q:y.U8=d.U8++(if(S.toList == [36,99])=true then d.U6 else [])->(∀x,aJ y.U9 x=(aJ d.U9 x||aJ (if(S.toList == [36,118])=true then d.U6 else []) x))->y.Vf=d.Vf++(if(S.toList == [36,118])=true then d.U6 else [])->y.Vi=d.Vi++(if(S.toList == [36,102])=true then [tS (T++[t]) (H+1)] else [])->y.blocks=d.blocks->y.Ve=d.Ve->rR (T++[t]) (aj T++[s]) y/\tF (T++[t]) y:=fun g1 g2 g3 g4 g5 g6 =>
  ⟨I.close ok fo s (fun o=>by rw[r];exact C o) (by rw[v2];exact g1) (fun x=>by rw[v1];exact g2 x) (by rw[v1];exact g3) (by rw[v3];exact g4) g5,
   tF.none Q (by rw[w]) (by rw[w]) (by rw[w]) (by rw[B,D];exact g6)⟩
 -- the seven keys
 have n:∀k:Int,d.kind=k->(k==7)=false->(k==8)=false->(k==2)=false->aY d p=mY d p:=fun k N e7 e8 e2=>by
  unfold aY mO;rw[N,e7,e8,e2];simp
 generalize hkl:S.toList=l at *;generalize hkk:d.kind=k at *
 rcases K with ⟨rfl,rfl⟩ | ⟨rfl,rfl⟩ | ⟨rfl,rfl⟩ | ⟨rfl,rfl⟩ | ⟨rfl,rfl⟩ | ⟨rfl,rfl⟩ | ⟨rfl,rfl⟩
 ·have e:aY d p={ d with U8:=d.U8++d.U6 }:=by unfold aY;rw[hkk];rfl
  rw[e]at b c f g j m;exact q (by rw[b];rfl) (fun x=>by rw[c];simp[iJ]) (by rw[f];simp) (by rw[g];simp) j m
 ·have e:aY d p=dO d d.U6.length:=by unfold aY;rw[hkk];rfl
  rw[e]at b c f g j m;unfold dO at b c f g j m;exact q (by rw[b];simp) (fun x=>by rw[c];simp only[List.take_length];rw[BS];rfl) (by rw[f];rfl) (by rw[g];simp) j m
 ·have e:=n 1 rfl rfl rfl rfl
  rw[e]at b c f g j m;unfold mY at b c f g j m;exact q (by rw[b];simp) (fun x=>by rw[c];simp[iJ]) (by rw[f];simp) (by rw[g];simp) j m
 ·have F:=F rfl
  have P:d.Va=false:=by
   cases h:d.Va
   ·rfl
   ·exact absurd (R h).1 (by decide)
  have E:=M P
  have e:aY d p=mY { d with Vi:=d.Vi++[d.U6.getD 1 ⟨#[]⟩] } p:=by
   unfold aY mO;rw[hkk,QT (by decide),QT (by decide),QW ⟨rfl,F⟩]
  have hg:d.U6.getD 1 ⟨#[]⟩=tS (T++[t]) (H+1):=by
   have z:H+1<T.length:=by
    rw[E,<-J,m8,Ri,RT]at F;omega
   rw[E,<-J,m8,fI T [t] _ z];unfold tS;rw[QQ,QQ,Rq,SV,QP z];rfl
  rw[e]at b c f g j m;unfold mY at b c f g j m;exact q (by rw[b];simp) (fun x=>by rw[c];simp[iJ]) (by rw[f];simp) (by rw[g,hg];rfl) j m
 ·have e:=n 3 rfl rfl rfl rfl
  rw[e]at b c f g j m;unfold mY at b c f g j m;exact q (by rw[b];simp) (fun x=>by rw[c];simp[iJ]) (by rw[f];simp) (by rw[g];simp) j m
 ·have e:=n 4 rfl rfl rfl rfl
  rw[e]at b c f g j m;unfold mY at b c f g j m;exact q (by rw[b];simp) (fun x=>by rw[c];simp[iJ]) (by rw[f];simp) (by rw[g];simp) j m
 ·have e:=n 5 rfl rfl rfl rfl
  rw[e]at b c f g j m;unfold mY at b c f g j m;exact q (by rw[b];simp) (fun x=>by rw[c];simp[iJ]) (by rw[f];simp) (by rw[g];simp) j m
theorem AC(m:il T (aj T) (aj T).length)(w:l8 T (aj T) (aj T).length)(I:rR T (aj T) d)(B:ew T (fA T)=(S,H))(b:fA T<H)(l:H<=T.length)(k:eZ S.toList d.kind)(z:fa T H T.length=i)(C:d.Ve=jH T (aj T)++(if(aC S||aG S)=true then [tS T (fA T)] else []))(x:(aC S||aG S)=true->((tS T (fA T)).toList == [])=false)(A:bS t.s=false)(n:y.U8=d.U8)(o:y.U9=d.U9)(p:y.Vf=d.Vf)(q:y.Vi=d.Vi)(r:y.blocks=d.blocks)(u:y.Ve=d.Ve)(v:y.kind=d.kind)(e:y.Va=aJ (i++[t.s]) ⟨#[36,61]⟩)(g:y.U6=(i++[t.s]).takeWhile kB)(f:y.Va=true->y.kind=5/\y.U6≠[]):rR (T++[t]) (aj (T++[t])) y/\tF (T++[t]) y:=by
 obtain⟨j,c⟩:=mF (T:=T) (t:=t) A;have a:tS (T++[t]) (fA (T++[t]))=tS T (fA T):=by rw[c,fI T [t] _ (by omega)]
 refine⟨by rw[j];exact I.same m w n o p q r,tF.body S H (i++[t.s]) (by rw[c];exact sO B b l k) (by rw[c];exact b) (by simp;omega) (by rw[v];exact k) (by rw[KL t H l,z]) e g f ?_ (fun h=>by rw[a];exact x h)⟩;rw[j,qn m,a,u];exact C
theorem JR(C:il T (aj T) (aj T).length)(r:l8 T (aj T) (aj T).length)(I:rR T (aj T) d)(A:ew T (fA T)=(S,H))(b:fA T<H)(z:H<=T.length)(j:eZ S.toList d.kind)(y:fa T H T.length=i)(a:d.Va=aJ i ⟨#[36,61]⟩)(g:d.U6=i.takeWhile kB)(l:d.Va=true->d.kind=5/\d.U6≠[])(q:d.Ve=jH T (aj T)++(if(aC S||aG S)=true then [tS T (fA T)] else []))(v:(aC S||aG S)=true->((tS T (fA T)).toList == [])=false)(p:Pl) :
  lW T (aj T) S t.s (aj T).length i=(aX d t.s p).1/\((aX d t.s p).1=0->rR (T++[t]) (aj (T++[t])) (aX d t.s p).2/\tF (T++[t]) (aX d t.s p).2):=by
 have k:d.Va=false->d.U6=i:=fun h=>by rw[g];exact vp i (by rw[<-a];exact h)
 have n:(⟨#[36,61]⟩:ByteArray).toList=[36,61]:=by decide +kernel
 rw[qA j];unfold lW
 cases O:(t.s.toList == [36,46])
 ·simp only[Bool.false_eq_true,if_false]
  rw[<-a,<-O8 j]
  cases w:((t.s.toList == [36,61])&&((d.kind==5) && !d.Va))
  ·have E:¬((t.s.toList == [36,61])=true/\(d.kind==5)=true/\d.Va=false):=fun h=>by
    rw[h.1,h.2.1,h.2.2]at w;cases w
   simp only[Bool.false_eq_true,if_false];rw[QT E,ia]
   cases M:dA t.s
   ·have c:bS t.s=false:=by
     cases J:bS t.s
     ·rfl
     ·have:=(kM J).1
      rw[ia,M]at this;cases this
    have K:(t.s.toList == [36,61])=false:=by
     cases J:(t.s.toList == [36,61])
     ·rfl
     ·have e:=Fm (dd J)
      rw[ia,M]at e;exact absurd e (by decide +kernel)
    simp only[Bool.false_eq_true,if_false]
    cases x:d.Va
    ·have B:=k x
     simp only[Bool.false_eq_true,if_false];have P:=KT I j B (fun h=>by rw[q,QT (by rw[h];simp),Rl]) t.s;rw[P]
     have f:aJ (i++[t.s]) ⟨#[36,61]⟩=false:=by
      rw[wm,ru,<-a,x,n,K];rfl
     cases F:(aZ d t.s==0)
     ·simp only[Bool.false_eq_true,if_false]
      exact⟨trivial,fun h=>by rw[h]at F;cases F⟩
     ·rw[QW rfl]
      refine⟨by simpa using F,fun _=>AC C r I A b z j y q v c rfl rfl rfl rfl rfl rfl rfl f.symm ?_ (fun h=>Bool.noConfusion h)⟩;rw[vp _ f];simp only;rw[B]
    ·have N:aJ i ⟨#[36,61]⟩=true:=by rw[<-a];exact x
     rw[QW rfl,QW rfl];exact⟨rfl,fun _=>AC C r I A b z j y q v c rfl rfl rfl rfl rfl rfl rfl (by rw[wm,N,Ts]) (by rw[MF _ _ N];exact g) (fun _=>l x)⟩
   ·rw[QW rfl,QW rfl]
    exact⟨rfl,fun h=>by cases h⟩
  ·simp only[Bool.and_eq_true,Bool.not_eq_true']at w
   obtain⟨u,L,D⟩:=w;have B:=k D;rw[QW rfl,QW (show(t.s.toList == [36,61])=true/\(d.kind==5)=true/\d.Va=false from⟨u,L,D⟩)];unfold b7;rw[B]
   by_cases m:i.length=0
   ·rw[QW m,QW m]
    exact⟨rfl,fun h=>by cases h⟩
   ·rw[QT m,QT m]
    have c:bS t.s=false:=by rw[(kc (dd u)).2.2];decide
    have G:aJ i ⟨#[36,61]⟩=false:=by rw[<-a];exact D
    have f:aJ (i++[t.s]) ⟨#[36,61]⟩=true:=by rw[wm,ru,n,u,Bool.or_true]
    refine⟨rfl,fun _=>AC C r I A b z j y q v c rfl rfl rfl rfl rfl rfl rfl f.symm ?_ (fun _=>⟨by simpa using L,?_⟩)⟩
    ·have o:=Lo i G
     rw[List.takeWhile_append_of_pos o,Tl (by unfold kB;rw[u];simp),Rl]
    ·simp only
     intro e;rw[e]at m;exact m rfl
 ·rw[QW rfl,QW rfl]
  obtain⟨Q,R⟩:=OR j a g l p;refine⟨Q,fun h=>?_⟩;obtain⟨U,V⟩:=R h;exact Fk C r I A b z j y g l q v O p V k U
theorem pH(a:(S.toList == [36,123])=false)(b:(S.toList == [36,125])=false)(o:Int):aO o S=o:=by
 unfold aO;rw[a,b];rfl
theorem zM(h:dA S=false)(o:Int):aO o S=o:=by
 have a:bS S=false:=by
  cases b:bS S
  ·rfl
  ·have:=(kM b).1
   rw[ia,h]at this;cases this
 unfold bS at a;simp only[Bool.or_eq_false_iff]at a;exact pH a.1.2 a.2 o
theorem vU(d:Db)(p:Pl):(aY d p).blocks=d.blocks:=by
 unfold aY dO mY mO
 split
 ·rfl
 ·split
  ·rfl
  ·split <;> rfl
theorem Dc(o:tF T d)(x:ByteArray)(p:Pl)(h:(aX d x p).1=0):((aX d x p).2.blocks.length:Int)=aO (d.blocks.length:Int) x:=by
 rcases o with ⟨v,j,g,f,r⟩ | ⟨v,j,g,f,r,z,y⟩ | ⟨D,n,B,j,w,a,u,F,f,g,A,r,E⟩
 ·have e:aX d x p=av d x:=by unfold aX;rw[j];rfl
  rw[e]at h ⊢
  cases b:(x.toList == [36,123])
  ·cases c:(x.toList == [36,125])
   ·rw[pH b c]
    unfold av bI;rw[b,c,QT (by simp),QT (by simp)]
    repeat' split
    all_goals rfl
   ·have k:av d x=(match d.blocks.getLast? with | none=>(9,d) | some p=>(0,cw d p)):=by
     unfold av;rw[b,c,QT (by simp),QW rfl];rfl
    rw[k]at h ⊢
    cases l:d.blocks.getLast? with
    | none=>rw[l]at h;cases h
    | some q =>
     have s:0<d.blocks.length:=by
      rw[TU];intro e;rw[e]at l;cases l
     have t:(cw d q).blocks=d.blocks.dropLast:=by
      unfold cw dq
      split <;> rfl
     simp only;rw[t,rr (dd c),SF]
     show((d.blocks.length-1:Nat):Int)=(d.blocks.length:Int)-1
     omega
  ·have k:av d x=(0,{ d with blocks:=d.blocks++[(d.Vf.length,d.Vi.length)],rbl:=d.rbl++[d.Vn.length] }):=by
    unfold av;rw[b,QW rfl]
   rw[k,rr (dd b)];simp only[List.length_append,List.length_cons,List.length_nil]
   show((d.blocks.length+(0+1):Nat):Int)=(d.blocks.length:Int)+1
   omega
 ·have e:aX d x p=aH d x:=by unfold aX;rw[j];rfl
  rw[e]at h ⊢
  have C:aO (d.blocks.length:Int) x=(d.blocks.length:Int):=by
   refine pH ?_ ?_ _
   ·cases a:(x.toList == [36,123])
    ·rfl
    ·exfalso
     unfold aH at h;rw[ci a,ci a,ci a,ci a,QT (by decide),QT (by decide),QT (by decide),QT (by decide)]at h
     cases h
   ·cases a:(x.toList == [36,125])
    ·rfl
    ·exfalso
     unfold aH at h;rw[ci a,ci a,ci a,ci a,QT (by decide),QT (by decide),QT (by decide),QT (by decide)]at h
     cases h
  rw[C];unfold aH
  repeat' split
  all_goals rfl
 ·rw[qA u]at h ⊢
  cases b:(x.toList == [36,46])
  ·rw[b,QT (by simp)]at h
   rw[QT (by simp)]
   by_cases c:(x.toList == [36,61])=true/\(d.kind==5)=true/\d.Va=false
   ·rw[QW c,pH (by rw[ci c.1];decide) (by rw[ci c.1];decide)]
    unfold b7
    split <;> rfl
   ·rw[QT c]at h ⊢
    cases m:dA x
    ·rw[zM m,QT (by simp)]
     repeat' split
     all_goals rfl
    ·rw[m,QW rfl]at h;cases h
  ·rw[QW rfl,pH (by rw[ci b];decide) (by rw[ci b];decide)]
   unfold lL
   split
   ·rfl
   ·split
    ·rfl
    ·simp only;rw[vU]
end
def nu(S:List Sm)(j:Nat):Bool:=((au S j).k.toList == [36,100])||((au S j).k.toList == [36,102])||((au S j).k.toList == [36,101])||((au S j).k.toList == [36,97])||((au S j).k.toList == [36,112])
def lV(S:List Sm):List Nat:=(List.range S.length).filter (nu S)
def bR(S:List Sm)(n:Nat):Nat:=(lV S).getD n S.length
theorem Ly(a:l<n.length):nu (n++[L]) l=nu n l:=by
 unfold nu;rw[jL n [L] l a]
theorem nX:lV (n++[L])=lV n++(if nu (n++[L]) n.length=true then [n.length] else []):=by
 unfold lV;rw[cg,R6,RV,dW (fun j a=>Ly n L j a)]
 congr 1
 cases h:nu (n++[L]) n.length <;> simp[h]
theorem N2(h:(lV b)[H]?=some D):D<b.length:=by
 have:=R4 h;exact Ra.1 (RH.1 this).1
theorem N1(h:H<(lV b).length):bR b H<b.length:=by
 have e:(lV b)[H]?=some (bR b H):=by unfold bR;rw[QQ,QP h];rfl
 exact N2 e
theorem Ma:bR n (lV n).length=n.length:=by
 unfold bR;rw[QQ,Rx (QR _)];rfl
theorem L9(h:H<(lV b).length):bR (b++[z2]) H=bR b H:=by
 unfold bR;rw[nX,QQ,QQ,Q7 h,QP h];rfl
theorem nW{S:List Sm}{n a:Nat}(h:n<a)(b:a<(lV S).length):bR S n<bR S a:=by
 have c:(lV S).Pairwise (· < ·):=List.Pairwise.filter _ Ui;have:=UJ.1 c n a (by omega) b h;unfold bR;rw[QQ,QQ,QP b,QP (by omega)];exact this
theorem rV(a:H<=D)(c:D<=b.length):aV (b++[z2]) H D=aV b H D:=by
 unfold aV;rw[Sg (by omega),So (by rw[RT];omega)]
theorem qi(a:H<=b.length):bb (b++[z2]) H=bb b H:=by
 unfold bb;rw[So a]
theorem FW(a:H<=b.length):aV (b++[z2]) H (b.length+1)=(aV b H b.length&&decide (bb b H<=aO (bb b b.length) z2.k)):=by
 rw[rW (b++[z2]) H b.length a (by rw[cg];omega),rV a (QR _),qi a,hZ]
theorem zz(a:H<=b.length)(h:aV b H b.length=true):bb b H<=bb b b.length:=DE b H b.length a (QR _) h b.length a (QR _)
theorem nL(a:H<=b.length)(c:∀o,o<=aO o z2.k):aV (b++[z2]) H (b.length+1)=aV b H b.length:=by
 rw[FW a]
 cases h:aV b H b.length
 ·rfl
 ·have:=zz a h
  have:=c (bb b b.length);simp;omega
structure np(S:List Sm)(l:List St)(rb:List Nat):Prop where
 len:l.length=(lV S).length
 til:∀(n:Nat) (s:St),l[n]?=some s->qP s.kind=false->∀a,n<a->a<=l.length->(s.til==0||decide (a<s.til))=aV S (bR S n) (bR S a)
 le:∀(n:Nat) (s:St),l[n]?=some s->s.til<=l.length
 dep:bb S S.length=(rb.length:Int)
 rbl:∀i,i<rb.length->rb.getD i 0<=l.length/\∀n,n<l.length->aV S (bR S n) S.length=true->(rb.getD i 0<=n ↔ (i:Int)<bb S (bR S n))
theorem np.nil:np [] [] []:=⟨rfl,(fun n s h=>by cases h),(fun n s h=>by cases h),rfl,fun i h=>by cases h⟩
theorem np.at_(h:np b k a)(c:H<k.length):bR b H<b.length:=N1 (by rw[<-h.len];exact c)
theorem np.ix(h:np b k a)(s:Sm)(c:H<k.length):bR (b++[s]) H=bR b H:=L9 (by rw[<-h.len];exact c)
theorem np.ixEnd(h:np b k a):bR b k.length=b.length:=by rw[h.len];exact Ma b
theorem np.now(h:np b k a)(c:k[H]?=some g)(d:qP g.kind=false):(g.til==0)=aV b (bR b H) b.length:=by
 have e:=(Q8.1 c).1;have:=h.til H g c d k.length e (QR _);rw[h.ixEnd]at this;rw[<-this];have:=h.le H g c;rw[Sb (by omega),Sz]
theorem np.other(h:np b k a)(s:Sm)(G:nu (b++[s]) b.length=false)(v:∀o,o<=aO o s.k)(f:List Nat)(F:aO (bb b b.length) s.k=(f.length:Int))(E:f=a∨f=a++[k.length]):np (b++[s]) k f:=by
 have e:lV (b++[s])=lV b:=by rw[nX,QT (by rw[G];simp),Rl]
 have A:bR (b++[s]) k.length=b.length+1:=by
  unfold bR;rw[e,QQ,Rx (by rw[h.len];exact QR _)];exact cg b s
 refine⟨by rw[e];exact h.len,fun n t w y q g l=>?_,h.le,by rw[cg,hZ];exact F,fun i j=>?_⟩
 ·have d:=(Q8.1 w).1
  have m:=h.at_ d;rw[h.ix s d]
  by_cases B:q=k.length
  ·subst B
   rw[A,nL (by omega) v,h.til n t w y _ g l,h.ixEnd]
  ·have c:q<k.length:=by omega
   have:=h.at_ c;have u:bR b n<=bR b q:=RM (nW g (by rw[<-h.len];exact c));rw[h.ix s c,rV u (by omega)];exact h.til n t w y q g l
 ·rw[cg]
  have p:∀i,i<a.length->a.getD i 0<=k.length/\∀n,n<k.length->aV (b++[s]) (bR (b++[s]) n) (b.length+1)=true->(a.getD i 0<=n ↔ (i:Int)<bb (b++[s]) (bR (b++[s]) n)):=fun i j=>by
   obtain⟨C,D⟩:=h.rbl i j;refine⟨C,fun n d c=>?_⟩;have m:=h.at_ d;rw[h.ix s d]at c ⊢;rw[nL (by omega) v]at c;rw[qi (by omega)];exact D n d c
  rcases E with rfl | rfl
  ·exact p i j
  ·rw[Q0]at j
   replace j:i<a.length+1:=j
   by_cases x:i<a.length
   ·have r:(a++[k.length]).getD i 0=a.getD i 0:=by rw[QQ,QQ,Q7 x]
    rw[r];exact p i x
   ·have r:i=a.length:=by omega
    subst r;have z:(a++[k.length]).getD a.length 0=k.length:=by rw[QQ,Q5 (QR _),RY];rfl
    rw[z];refine⟨QR _,fun n d c=>?_⟩;have m:=h.at_ d;rw[h.ix s d]at c ⊢;rw[nL (by omega) v]at c;rw[qi (by omega)];have:=zz (by omega) c;have:=h.dep;omega
theorem np.kept(h:np b k a)(s:Sm)(J:nu (b++[s]) b.length=true)(B:∀o,aO o s.k=o)(t:St)(K:t.til=0):np (b++[s]) (k++[t]) a:=by
 have d:∀o,o<=aO o s.k:=fun o=>by rw[B o];exact TJ _
 have e:lV (b++[s])=lV b++[b.length]:=by rw[nX,QW J]
 have p:(k++[t]).length=k.length+1:=by rw[Q0];rfl
 have r:bR (b++[s]) k.length=b.length:=by
  unfold bR;rw[e,h.len,QQ,Q5 (QR _),RY];rfl
 have A:bR (b++[s]) (k.length+1)=b.length+1:=by
  unfold bR;rw[e,QQ,Rx (by rw[Q0,h.len];exact QR _)];exact cg b s
 have f:aV (b++[s]) b.length (b.length+1)=true:=by
  rw[nL (QR _) d];exact A9 b b.length
 refine⟨by rw[p,e,Q0,h.len];rfl,fun n u c x g m w=>?_,fun n u c=>?_,by rw[cg,hZ,B];exact h.dep,fun i I=>?_⟩
 ·rw[p]at w
  by_cases j:n<k.length
  ·rw[Q7 j]at c
   have z:=h.at_ j;have L:=h.le n u c;rw[h.ix s j]
   by_cases l:g<k.length
   ·have:=h.at_ l
    have y:bR b n<=bR b g:=RM (nW m (by rw[<-h.len];exact l));rw[h.ix s l,rV y (by omega)];exact h.til n u c x g m (by omega)
   ·by_cases D:g=k.length
    ·subst D
     rw[r,rV (by omega) (QR _),<-h.now c x,Sb (by omega),Sz]
    ·have E:g=k.length+1:=by omega
     subst E;rw[A,nL (by omega) d,<-h.now c x,Sb (by omega),Sz]
  ·have F:n=k.length:=by omega
   have l:g=k.length+1:=by omega
   subst F l;rw[Q5 (QR _),RY]at c
   cases c
   rw[r,A,f,K];rfl
 ·rw[p]
  by_cases j:n<k.length
  ·rw[Q7 j]at c
   have:=h.le n u c;omega
  ·have:=(Q8.1 c).1
   rw[p]at this;rw[Q5 (by omega),show n-k.length=0 by omega]at c
   cases c
   omega
 ·obtain⟨G,H⟩:=h.rbl i I
  rw[p,cg];refine⟨by omega,fun n j v=>?_⟩
  by_cases q:n<k.length
  ·have z:=h.at_ q
   rw[h.ix s q]at v ⊢;rw[nL (by omega) d]at v;rw[qi (by omega)];exact H n q v
  ·have C:n=k.length:=by omega
   subst C;rw[r,qi (QR _),h.dep]
   constructor
   ·intro _;omega
   ·intro _;exact G
theorem qj(h:(gy k H)[D]?=some g):∃v,k[D]?=some v/\g=(if H<=D/\D<k.length then lM k.length v else v):=by
 unfold gy at h;rw[mt]at h
 cases e:k[D]? with
 | none=>rw[e]at h;cases h
 | some v=>rw[e]at h;simp only[Option.map_some,Option.some.injEq]at h;exact⟨v,rfl,h.symm⟩
theorem np.pop(h:np b k (a++[H]))(s:Sm)(Q:nu (b++[s]) b.length=false)(I:∀o,aO o s.k=o-1):np (b++[s]) (gy k H) a:=by
 have e:lV (b++[s])=lV b:=by rw[nX,QT (by rw[Q];simp),Rl]
 have w:(gy k H).length=k.length:=jg k H k.length
 have M:bR (b++[s]) k.length=b.length+1:=by
  unfold bR;rw[e,QQ,Rx (by rw[h.len];exact QR _)];exact cg b s
 have O:bb b b.length=(a.length:Int)+1:=by rw[h.dep,Q0];rfl
 obtain⟨A,l⟩:=h.rbl a.length (by rw[Q0];exact Nat.lt_succ_self _);have L:(a++[H]).getD a.length 0=H:=by rw[QQ,Q5 (QR _),RY];rfl
 rw[L]at A l
 have J:∀n,n<k.length->aV (b++[s]) (bR b n) (b.length+1)=(aV b (bR b n) b.length&&decide (n<H)):=fun n d=>by
  have p:=h.at_ d;rw[FW (by omega)]
  cases g:aV b (bR b n) b.length
  ·rfl
  ·have q:=l n d g
   have:=zz (by omega) g;rw[I,Sv,Sv]
   by_cases c:n<H
   ·rw[SM c]
    exact SM (by omega)
   ·rw[Sb c]
    exact Sb (by omega)
 refine⟨by rw[w,e];exact h.len,fun n u C m t r y=>?_,fun n u C=>?_,by rw[cg,hZ,I,O];omega,fun i G=>?_⟩
 ·obtain⟨v,j,rfl⟩:=qj C
  have d:=(Q8.1 j).1;have p:=h.at_ d;rw[w]at y
  have f:qP v.kind=false:=by
   split at m
   ·unfold lM at m;split at m <;> exact m
   ·exact m
  have D:=h.now j f;rw[h.ix s d];have P:=h.le n v j
  by_cases x:t<k.length
  ·have:=h.at_ x
   have B:bR b n<=bR b t:=RM (nW r (by rw[<-h.len];exact x));rw[h.ix s x,rV B (by omega),<-h.til n v j f t r (by omega)]
   split
   ·unfold lM
    split
    ·next c=>rw[c.1];simp;omega
    ·rfl
   ·rfl
  ·have N:t=k.length:=by omega
   subst N;rw[M,J n d,<-D]
   by_cases c:H<=n
   ·rw[QW ⟨c,d⟩,Sb (show ¬n<H by omega),Bool.and_false]
    unfold lM
    by_cases z:v.til=0
    ·rw[QW ⟨z,f⟩]
     show(k.length==0||decide (k.length<k.length))=false
     rw[Rh.2 (show k.length≠0 by omega),Sb (Nat.lt_irrefl _)];rfl
    ·rw[QT (fun q=>z q.1)]
     have:(v.til==0)=false:=Rh.2 z;rw[this,Sb (show ¬k.length<v.til by omega)];rfl
   ·rw[QT (fun q=>c q.1),SM (show n<H by omega),Bool.and_true,Sb (show ¬k.length<v.til by omega),Sz]
 ·obtain⟨v,j,rfl⟩:=qj C
  have:=h.le n v j;rw[w]
  split
  ·unfold lM
   split
   ·exact QR _
   ·exact this
  ·exact this
 ·obtain⟨E,F⟩:=h.rbl i (by rw[Q0];exact Nat.lt_succ_of_lt G)
  have K:(a++[H]).getD i 0=a.getD i 0:=by rw[QQ,QQ,Q7 G]
  rw[K]at E F;rw[w,cg];refine⟨E,fun n d g=>?_⟩;have p:=h.at_ d;rw[h.ix s d]at g ⊢;rw[J n d,Rg]at g;rw[qi (by omega)];exact F n d g.1
def NF(k:Int):Bool:=decide (2<=k/\k<=6)
structure kP(T:List Tk)(d:Db):Prop where
 hel:np (aj T) d.Vn d.rbl
 ct:∀(n:Nat) (s:St),d.Vn[n]?=some s->eZ (au (aj T) (bR (aj T) n)).k.toList s.kind/\s.label=bG T (au (aj T) (bR (aj T) n))/\s.U6=bu T (au (aj T) (bR (aj T) n)).h/\cU T (au (aj T) (bR (aj T) n)).h
 lab:d.label=if NF d.kind=true then tS T (fA T) else⟨#[]⟩
section
variable {T:List Tk} {t:Tk} {d d':Db}
theorem wA:nu (n++[L]) n.length=(((L.k.toList == [36,100])||(L.k.toList == [36,102])||(L.k.toList == [36,101])||(L.k.toList == [36,97])||(L.k.toList == [36,112]))):=by
 unfold nu;rw[lX]
theorem kP.old(R:kP T d)(r:il T (aj T) (aj T).length){M:List Sm}{b:St}(p:H<d.Vn.length)(q:d.Vn[H]?=some g)(e:bR (aj T++M) H=bR (aj T) H)(i:b.kind=g.kind)(j:b.label=g.label)(l:b.U6=g.U6) :
  eZ (au (aj T++M) (bR (aj T++M) H)).k.toList b.kind/\b.label=bG (T++[t]) (au (aj T++M) (bR (aj T++M) H))/\b.U6=bu (T++[t]) (au (aj T++M) (bR (aj T++M) H)).h/\cU (T++[t]) (au (aj T++M) (bR (aj T++M) H)).h:=by
 obtain⟨m,n,o,f⟩:=R.ct H g q;have c:=R.hel.at_ p;rw[e,jL _ _ _ c,i,j,l];refine⟨m,?_,?_,JW T [t] _ f⟩
 ·rw[n]
  unfold bG;rw[fI T [t] _ (r.a _ c)]
 ·rw[o,sg T [t] _ f]
theorem kP.Vb(R:kP T d)(j:il T (aj T) (aj T).length)(h:bS t.s=false)(c:d'.Vn=d.Vn)(f:d'.rbl=d.rbl)(g:d'.label=if NF d'.kind=true then tS (T++[t]) (fA T) else⟨#[]⟩):kP (T++[t]) d':=by
 obtain⟨b,e⟩:=mF (T:=T) (t:=t) h;refine⟨by rw[b,c,f];exact R.hel,fun n s a=>?_,by rw[e];exact g⟩;rw[c]at a;have i:=(Q8.1 a).1;rw[b];have:=R.old (t:=t) j (M:=[]) i a (by rw[Rl]) rfl rfl rfl;rw[Rl]at this;exact this
theorem kP.other(R:kP T d)(m:il T (aj T) (aj T).length)(s:Sm)(c:aj (T++[t])=aj T++[s])(j:nu (aj T++[s]) (aj T).length=false)(l:∀o,o<=aO o s.k)(i:aO (bb (aj T) (aj T).length) s.k=(d'.rbl.length:Int))(h:d'.rbl=d.rbl∨d'.rbl=d.rbl++[d.Vn.length])(b:d'.Vn=d.Vn)(f:d'.label=⟨#[]⟩)(g:d'.kind=0):kP (T++[t]) d':=by
 refine⟨by rw[c,b];exact R.hel.other s j l d'.rbl i h,fun n u a=>?_,by rw[f,g];rfl⟩;rw[b]at a;have e:=(Q8.1 a).1;rw[c];exact R.old m e a (R.hel.ix s e) rfl rfl rfl
theorem kP.kept(R:kP T d)(z:il T (aj T) (aj T).length)(s:Sm)(f:aj (T++[t])=aj T++[s])(g:nu (aj T++[s]) (aj T).length=true)(x:∀o,aO o s.k=o)(u:St)(y:u.til=0)(p:eZ s.k.toList u.kind)(w:u.label=bG (T++[t]) s)(q:u.U6=bu (T++[t]) s.h)(r:cU (T++[t]) s.h)(c:d'.Vn=d.Vn++[u])(i:d'.rbl=d.rbl)(j:d'.label=⟨#[]⟩)(l:d'.kind=0):kP (T++[t]) d':=by
 refine⟨by rw[f,c,i];exact R.hel.kept s g x u y,fun n v a=>?_,by rw[j,l];rfl⟩;rw[c]at a;rw[f]
 by_cases b:n<d.Vn.length
 ·rw[Q7 b]at a
  exact R.old z b a (R.hel.ix s b) rfl rfl rfl
 ·have e:n=d.Vn.length:=by
   have:=(Q8.1 a).1;rw[Q0]at this;have:n<d.Vn.length+1:=this;omega
  subst e;rw[Q5 (QR _),RY]at a
  cases a
  have m:bR (aj T++[s]) d.Vn.length=(aj T).length:=by
   unfold bR;rw[nX,QW g,R.hel.len,QQ,Q5 (QR _),RY];rfl
  rw[m,lX];exact⟨p,w,q,r⟩
theorem kP.pop(R:kP T d)(x:il T (aj T) (aj T).length)(s:Sm)(c:aj (T++[t])=aj T++[s])(p:nu (aj T++[s]) (aj T).length=false)(r:∀o,aO o s.k=o-1)(i:d.rbl=a++[H])(b:d'.Vn=gy d.Vn H)(j:d'.rbl=a)(l:d'.label=⟨#[]⟩)(m:d'.kind=0):kP (T++[t]) d':=by
 have h:=R.hel;rw[i]at h;refine⟨by rw[c,b,j];exact h.pop s p r,fun n u f=>?_,by rw[l,m];rfl⟩;rw[b]at f;obtain⟨v,g,w⟩:=qj f;have e:=(Q8.1 g).1
 have q:u.kind=v.kind/\u.label=v.label/\u.U6=v.U6:=by
  rw[w]
  split
  ·unfold lM;split <;> exact⟨rfl,rfl,rfl⟩
  ·exact⟨rfl,rfl,rfl⟩
 rw[c];exact R.old x e g (R.hel.ix s e) q.1 q.2.1 q.2.2
end
section
variable {T:List Tk} {t:Tk} {d:Db}
theorem zO(h:dA S=false):bS S=false:=by
 cases a:bS S
 ·rfl
 ·have:=(kM a).1
  rw[ia,h]at this;cases this
theorem lR(h:(S.toList==o)=true)(a:((o == [36,46])||(o == [36,123])||(o == [36,125]))=false):bS S=false:=by
 rw[(kc (dd h)).2.2];exact a
theorem kP.first(R:kP T d)(b:il T (aj T) (aj T).length)(z:bb (aj T) (aj T).length=(d.blocks.length:Int))(n:fA T=T.length)(r:d.kind=0)(a:(av d t.s).1=0):kP (T++[t]) (av d t.s).2:=by
 have g:d.label=⟨#[]⟩:=by rw[R.lab,r];rfl
 unfold av at *
 by_cases c:(t.s.toList == [36,123])=true
 ·rw[QW c]
  obtain⟨j,-⟩:=qo (T:=T) (t:=t) n (by rw[(kc (dd c)).2.2];decide);have h:∀o,aO o t.s=o+1:=fun o=>by rw[rr (dd c)];rfl
  refine R.other b _ j (by rw[wA];simp only;rw[dd c];decide) (fun o=>by show o<=aO o t.s;rw[h];omega) ?_ (QV rfl) rfl g r
  show aO _ t.s=_
  rw[h,R.hel.dep];simp only[List.length_append,List.length_cons,List.length_nil];omega
 rw[QT c]at a ⊢
 by_cases f:(t.s.toList == [36,125])=true
 ·rw[QW f]at a ⊢
  cases p:d.blocks.getLast? with
  | none=>rw[p]at a;cases a
  | some q =>
   simp only;obtain⟨j,-⟩:=qo (T:=T) (t:=t) n (by rw[(kc (dd f)).2.2];decide);have h:∀o,aO o t.s=o-1:=fun o=>by rw[rr (dd f)];rfl
   have i:d.rbl≠[]:=by
    intro e;have:=R.hel.dep;rw[z,e]at this;have:d.blocks=[]:=Rk (by simpa using this);rw[this]at p;cases p
   have w:d.rbl=d.rbl.dropLast++[d.rbl.getLast i]:=(Uv i).symm;have x:d.rbl.getLast?=some (d.rbl.getLast i):=Ta i;unfold cw;rw[x];exact R.pop b _ j (by rw[wA];simp only;rw[dd f];decide) (fun o=>h o) w rfl rfl g r
 rw[QT f]at a ⊢
 by_cases k:(t.s.toList == [36,99])=true
 ·rw[QW k]at a ⊢
  by_cases v:0<d.blocks.length
  ·rw[QW v]at a;cases a
  ·rw[QT v];exact R.Vb b (lR k (by decide)) rfl rfl g
 rw[QT k]at a ⊢
 by_cases l:(t.s.toList == [36,118])=true
 ·rw[QW l];exact R.Vb b (lR l (by decide)) rfl rfl g
 rw[QT l]at a ⊢
 by_cases m:(t.s.toList == [36,100])=true
 ·rw[QW m];exact R.Vb b (lR m (by decide)) rfl rfl g
 rw[QT m]at a ⊢
 split at a
 ·cases a
 ·next y =>
  rw[QT y];unfold bI at *
  cases u:dA t.s
  ·rw[u,QT (by simp)]at a
   split at a
   ·cases a
   ·next A =>
    split at a
    ·cases a
    ·next B =>
     rw[QT (by simp),QT A,QT B];exact R.Vb b (zO u) rfl rfl (by show t.s=tS (T++[t]) (fA T);rw[n,oV])
  ·rw[u,QW rfl]at a;cases a
theorem kP.key(R:kP T d)(c:il T (aj T) (aj T).length)(k:fA T+1=T.length)(j:d.kind=6)(a:(aH d t.s).1=0):kP (T++[t]) (aH d t.s).2:=by
 have b:d.label=tS (T++[t]) (fA T):=by rw[R.lab,j,fI T [t] _ (by omega)];rfl
 unfold aH at *
 split
 ·next h=>exact R.Vb c (lR h (by decide)) rfl rfl b
 ·next e =>
  rw[QT e]at a
  split
  ·next h=>exact R.Vb c (lR h (by decide)) rfl rfl b
  ·next f =>
   rw[QT f]at a
   split
   ·next h=>exact R.Vb c (lR h (by decide)) rfl rfl b
   ·next g =>
    rw[QT g]at a
    split
    ·next h=>exact R.Vb c (lR h (by decide)) rfl rfl b
    ·next i=>rw[QT i]at a;cases a
theorem LB(h:eZ o N):((o == [36,100])||(o == [36,102])||(o == [36,101])||(o == [36,97])||(o == [36,112]))=!((N==7)||(N==8)):=by
 (rcases h with ⟨rfl,rfl⟩ | ⟨rfl,rfl⟩ | ⟨rfl,rfl⟩ | ⟨rfl,rfl⟩ | ⟨rfl,rfl⟩ | ⟨rfl,rfl⟩ | ⟨rfl,rfl⟩) <;> decide
theorem LA(h:eZ S.toList N):(aC S||aG S)=NF N:=by
 have e:=kc (k:=S) rfl;rw[e.1,e.2.1];generalize S.toList=l at h
 (rcases h with ⟨rfl,rfl⟩ | ⟨rfl,rfl⟩ | ⟨rfl,rfl⟩ | ⟨rfl,rfl⟩ | ⟨rfl,rfl⟩ | ⟨rfl,rfl⟩ | ⟨rfl,rfl⟩) <;> decide
theorem kP.body(R:kP T d)(m:il T (aj T) (aj T).length)(E:ew T (fA T)=(S,H))(y:fA T<H)(x:H<=T.length)(k:eZ S.toList d.kind)(C:fa T H T.length=i)(A:d.U6=i.takeWhile kB)(p:Pl)(b:(aX d t.s p).1=0):kP (T++[t]) (aX d t.s p).2:=by
 have v:d.label=if NF d.kind=true then tS (T++[t]) (fA T) else⟨#[]⟩:=by rw[R.lab,fI T [t] _ (by omega)]
 rw[qA k]at *
 by_cases l:(t.s.toList == [36,46])=true
 ·rw[QW l]at *
  obtain⟨D,-⟩:=Gu l;obtain⟨n,-⟩:=oR T t;rw[QW D,sO E y x k]at n;simp only at n
  have f:bu (T++[t]) H=d.U6:=by
   unfold bu;rw[Sg x,vO _ t (fun u F=>?_) l,A,<-C,m8];have:=yU T H (by omega) u F;unfold bS at this;simp only[Bool.or_eq_false_iff]at this;exact this.1.1
  have z:cU (T++[t]) H:=⟨T.length,x,by simp,by rw[oV];unfold mM;rw[l];simp⟩;have c:=k.dep.1;have e:nu (aj T++[(⟨fA T,T.length+1,H,S⟩:Sm)]) (aj T).length=!((d.kind==7)||(d.kind==8)):=by rw[wA];exact LB k
  unfold lL at *
  split at b
  ·cases b
  ·next B =>
   rw[QT B]
   split at b
   ·cases b
   ·next j =>
    rw[QT j];simp only
    cases a:((d.kind==7)||(d.kind==8))
    ·rw[a]at e
     simp only[Bool.or_eq_false_iff]at a
     have h:(aY d p).Vn=d.Vn++[⟨d.kind,d.label,d.U6,d.Vh,p,0⟩]/\(aY d p).rbl=d.rbl:=by
      unfold aY mY mO;rw[a.1,a.2];simp only[Bool.false_eq_true,if_false]
      split <;> exact⟨rfl,rfl⟩
     refine R.kept m _ n e (fun o=>c o) ⟨d.kind,d.label,d.U6,d.Vh,p,0⟩ rfl k ?_ f.symm z h.1 h.2 rfl rfl
     show d.label=bG (T++[t]) ⟨fA T,T.length+1,H,S⟩
     unfold bG;simp only;rw[LA k];exact v
    ·rw[a]at e
     have h:(aY d p).Vn=d.Vn/\(aY d p).rbl=d.rbl:=by
      unfold aY dO;rw[RB]at a
      split
      ·exact⟨rfl,rfl⟩
      ·next q =>
       rw[QW (a.resolve_left q)];exact⟨rfl,rfl⟩
     refine R.other m _ n e (fun o=>by show o<=aO o S;rw[c];exact TJ _) ?_ (Q1 h.2) h.1 rfl rfl
     show aO _ S=_
     rw[c,R.hel.dep]
     show _=((aY d p).rbl.length:Int)
     rw[h.2]
 ·rw[QT l]at *
  by_cases w:(t.s.toList == [36,61])=true/\(d.kind==5)=true/\d.Va=false
  ·rw[QW w]at *
   unfold b7 at *
   split at b
   ·cases b
   ·next g=>rw[QT g];exact R.Vb m (lR w.1 (by decide)) rfl rfl v
  ·rw[QT w]at *
   cases r:dA t.s
   ·rw[r,QT (by simp)]at b
    rw[QT (by simp)]
    split at b
    ·next g=>rw[QW g];exact R.Vb m (zO r) rfl rfl v
    ·next g =>
     rw[QT g]
     split at b
     ·next j=>rw[QW j];exact R.Vb m (zO r) rfl rfl v
     ·next j=>simp only at b;rw[b]at j;exact absurd rfl j
   ·rw[r,QW rfl]at b;cases b
theorem kP.step(n:tF T d)(m:rR T (aj T) d)(o:∀j,j<T.length->bh T (aj T) j=0)(R:kP T d)(u:T.length<=100000)(p:Pl)(c:(aX d t.s p).1=0):kP (T++[t]) (aX d t.s p).2:=by
 obtain⟨i,-⟩:=Ao T u o
 rcases n with ⟨g,a,b,f,l⟩ | ⟨g,a,b,f,l,x,w⟩ | ⟨z,k,B,a,h,v,r,q,f,b,y,l,A⟩
 ·have e:aX d t.s p=av d t.s:=by unfold aX;rw[a];rfl
  rw[e]at c ⊢;exact R.first i (Bv m) g a c
 ·have e:aX d t.s p=aH d t.s:=by unfold aX;rw[a];rfl
  rw[e]at c ⊢;exact R.key i g a c
 ·exact R.body i a h v r q b p c
end
theorem fS(h:eZ o N):(N==3)=(o == [36,101])/\(N==2)=(o == [36,102])/\(N==1)=(o == [36,100])/\qP N=((o == [36,97])||(o == [36,112])):=by
 (rcases h with ⟨rfl,rfl⟩ | ⟨rfl,rfl⟩ | ⟨rfl,rfl⟩ | ⟨rfl,rfl⟩ | ⟨rfl,rfl⟩ | ⟨rfl,rfl⟩ | ⟨rfl,rfl⟩) <;> decide
theorem wQ:lV n=(List.range (lV n).length).map (bR n):=by
 apply Sq
 intro a;rw[Rq]
 by_cases h:a<(lV n).length
 ·rw[Uy h,QP h]
  show _=some (bR n a)
  unfold bR;rw[QQ,QP h];rfl
 ·rw[Rx (by omega),Rx (by rw[Tf];omega)];rfl
theorem ub(d:H=(lV b).length)(f:∀j,j<b.length->z6 j=true->nu b j=true)(g:∀n,n<H->y0 n=z6 (bR b n)):((List.range H).filter y0).map (bR b)=(List.range b.length).filter z6:=by
 have a:(List.range b.length).filter z6=(lV b).filter z6:=by
  unfold lV;rw[UG]
  apply dW
  intro j c
  cases h:z6 j
  ·rfl
  ·rw[f j c h];rfl
 rw[a,wQ b,<-d,List.filter_map]
 congr 1
 apply dW
 intro n e;exact g n e
theorem sF(h:D<=H)(p:Nat->Bool):(List.range H).filter (fun j=>decide (j<D)&&p j)=(List.range D).filter p:=by
 have e:List.range H=List.range D++(List.range (H-D)).map (D + ·):=by
  have:=@List.range_add D (H-D);rwa [show D+(H-D)=H by omega]at this
 have b:(List.range D).filter (fun j=>decide (j<D)&&p j)=(List.range D).filter p:=dW (fun j a=>by rw[SM a,Sv])
 have c:((List.range (H-D)).map (D + ·)).filter (fun j=>decide (j<D)&&p j)=[]:=by
  rw[Th];intro j a;obtain⟨i,-,rfl⟩:=Si.1 a;rw[Sb (by omega)];simp
 rw[e,RV,b,c,Rl]
section
variable {T:List Tk} {d:Db}
theorem kP.held(R:kP T d)(a:d.Vn[H]?=some g)(b:qP g.kind=false)(c:D<d.Vn.length):g7 d.Vn H D=(decide (bR (aj T) H<bR (aj T) D)&&aV (aj T) (bR (aj T) H) (bR (aj T) D)):=by
 have i:=(Q8.1 a).1;have f:=R.hel.len;unfold g7;rw[a];simp only
 by_cases h:H<D
 ·rw[SM h,SM (nW h (by omega)),R.hel.til H g a b D h (by omega)]
 ·have:¬bR (aj T) H<bR (aj T) D:=by
   by_cases e:H=D
   ·rw[e];omega
   ·have:=nW (S:=aj T) (n:=D) (a:=H) (by omega) (by omega)
    omega
  rw[Sb h,Sb this];rfl
theorem kP.get(R:kP T d)(a:H<d.Vn.length):∃s,d.Vn[H]?=some s/\eZ (au (aj T) (bR (aj T) H)).k.toList s.kind/\s.label=bG T (au (aj T) (bR (aj T) H))/\s.U6=bu T (au (aj T) (bR (aj T) H)).h:=by
 refine⟨d.Vn[H],QP a,?_⟩;obtain⟨b,c,e,-⟩:=R.ct H _ (QP a);exact⟨b,c,e⟩
theorem kP.symsAt(R:kP T d)(a:H<d.Vn.length):symsAt d.Vn H=bu T (au (aj T) (bR (aj T) H)).h:=by
 obtain⟨s,b,-,-,h⟩:=R.get a;unfold Go.Proofs.YtpddjjabfbfifaaGreat.symsAt;rw[b];exact h
theorem kP.syms(R:kP T d)(b:H<d.Vn.length):f8 d.Vn H=Dj T (aj T) (bR (aj T) H):=by
 have l:=R.hel.len;have a:=R.hel.at_ b
 have f:((List.range d.Vn.length).filter (zQ d.Vn H)).map (bR (aj T))=(List.range (bR (aj T) H)).filter (xY (aj T) (bR (aj T) H)):=by
  rw[<-sF (RM a)];refine ub l (fun j m h=>?_) (fun n c=>?_)
  ·unfold xY at h
   simp only[Bool.and_eq_true]at h;unfold nu;rw[h.2.1];simp
  ·obtain⟨s,i,g,-,-⟩:=R.get c
   unfold zQ xY;rw[i];simp only;rw[(fS g).1]
   cases e:((au (aj T) (bR (aj T) n)).k.toList == [36,101])
   ·simp
   ·have a:qP s.kind=false:=by
     rw[(fS g).2.2.2,ci e,ci e];decide
    rw[R.held i a b,Sv,Sv]
 unfold f8 eJ Dj lD;rw[R.symsAt b,<-f,List.flatMap_map]
 congr 1
 apply dx
 intro n c;exact R.symsAt (Ra.1 (RH.1 c).1)
def PM(T:List Tk)(S:List Sm):Prop:=∀j,j<S.length->((au S j).k.toList == [36,102])=true->2<=(bu T (au S j).h).length/\(bu T (au S j).h).getD 1 ⟨#[]⟩=tS T ((au S j).h+1)
theorem kP.hyps(R:kP T d)(F:PM T (aj T))(e:H<d.Vn.length):(aK d.Vn H).map (bR (aj T))=bW T (aj T) (bR (aj T) H):=by
 have t:=R.hel.len;have b:=R.hel.at_ e;unfold aK dG bW;rw[R.syms e,<-sF (RM b)];refine ub t (fun j w h=>?_) (fun n i=>?_)
 ·unfold sJ at h
  simp only[Bool.and_eq_true,Bool.or_eq_true]at h;unfold nu
  rcases h.2.2 with h | h
  ·rw[h];simp
  ·rw[h.1];simp
 ·obtain⟨s,f,r,-,g⟩:=R.get i
  have q:=R.hel.at_ i;obtain⟨v,l,x,m⟩:=fS r;unfold l6 sJ pN;rw[f];simp only;rw[l]
  cases a:((au (aj T) (bR (aj T) n)).k.toList == [36,102])
  ·rw[QT (by simp),v]
   cases c:((au (aj T) (bR (aj T) n)).k.toList == [36,101])
   ·simp
   ·have b:qP s.kind=false:=by rw[m,ci c,ci c];decide
    rw[R.held f b e];simp
  ·have b:qP s.kind=false:=by rw[m,ci a,ci a];decide
   have c:((au (aj T) (bR (aj T) n)).k.toList == [36,101])=false:=by rw[ci a];decide
   obtain⟨o,p⟩:=F _ q a
   have u:aL s=tS T ((au (aj T) (bR (aj T) n)).h+1):=by
    unfold aL;rw[QW ⟨by rw[l];exact a,by rw[g];exact o⟩,g,p]
   rw[QW rfl,R.held f b e,u,c,Sp,Sv,UY]
end
theorem Hg(L:List Tk):∀i,i<(ke L).length->(ke L)[i]?=L[i]?.map (·.s):=by
 induction L with
 | nil=>intro i a;cases a
 | cons t L b =>
  intro i a;unfold ke at a ⊢
  split
  ·next h=>rw[QW h]at a;cases a
  ·next h =>
   rw[QT h]at a
   cases i with
   | zero=>rfl
   | succ i=>exact b i (by simpa using a)
theorem Bi(a:l<(bu f v).length):(bu f v).getD l ⟨#[]⟩=tS f (v+l):=by
 unfold bu at *;have:=Hg (f.drop v) l a;unfold tS;rw[QQ,this,SV,QQ]
 cases f[v+l]? <;> rfl
section
variable {T:List Tk} {t:Tk} {d d':Db}
def vr(s:St):ByteArray:=s.U6.getD 1 ⟨#[]⟩
structure xA(d:Db):Prop where
 fl:∀(n:Nat) (s:St),d.Vn[n]?=some s->s.kind=2->2<=s.U6.length
 ds:∀(n m:Nat) (s u:St),d.Vn[n]?=some s->d.Vn[m]?=some u->s.kind=2->u.kind=2->n<m->(s.til=0∨m<s.til)->((vr s).toList==(vr u).toList)=false
 op:d.kind=2->2<=d.U6.length->aJ d.Vi (d.U6.getD 1 ⟨#[]⟩)=false
theorem kP.Vi(R:kP T d)(E:rR T (aj T) d)(F:xA d)(b:d.Vn[H]?=some g)(c:g.kind=2)(f:g.til=0):aJ d.Vi (vr g)=true:=by
 have m:=(Q8.1 b).1;obtain⟨j,-,e,-⟩:=R.ct H g b;have h:qP g.kind=false:=by rw[c];rfl
 have a:=R.hel.now b h;rw[f]at a;have i:=R.hel.at_ m;have n:((au (aj T) (bR (aj T) H)).k.toList == [36,102])=true:=by rw[<-(fS j).2.1,c];rfl
 rw[E.typ.l,nO,RC];refine⟨bR (aj T) H,RH.2 ⟨Ra.2 i,a.symm⟩,?_⟩;unfold Gg;rw[QW n,ru];have o:=F.fl H g b c;unfold vr;rw[e,Bi T _ 1 (by rw[<-e];omega)];simp
theorem xA.same(F:xA d)(b:d'.Vn=d.Vn)(e:d'.kind=2->2<=d'.U6.length->aJ d'.Vi (d'.U6.getD 1 ⟨#[]⟩)=false):xA d' :=
 ⟨fun n s a=>by rw[b]at a;exact F.fl n s a,fun n m s u a c=>by rw[b]at a c;exact F.ds n m s u a c,e⟩
theorem xA.ended(F:xA d)(b:Nat)(p:d'.Vn=gy d.Vn b)(r:d'.kind=0):xA d':=by
 have q:∀(n:Nat) (s:St),d'.Vn[n]?=some s->∃v,d.Vn[n]?=some v/\s.kind=v.kind/\s.U6=v.U6/\(s.til=v.til∨(v.til=0/\s.til=d.Vn.length)):=fun n s a=>by
  rw[p]at a;obtain⟨v,f,A⟩:=qj a;refine⟨v,f,?_⟩;rw[A]
  split
  ·unfold lM
   split
   ·next c=>exact⟨rfl,rfl,QV ⟨c.1,rfl⟩⟩
   ·exact⟨rfl,rfl,Q1 rfl⟩
  ·exact⟨rfl,rfl,Q1 rfl⟩
 refine⟨fun n s a j=>?_,fun n m s u a z j k l y=>?_,fun h=>by rw[r]at h;cases h⟩
 ·obtain⟨v,f,g,i,-⟩:=q n s a
  rw[i];exact F.fl n v f (by rw[<-g];exact j)
 ·obtain⟨v,f,g,i,e⟩:=q n s a
  obtain⟨x,o,t,w,-⟩:=q m u z;have B:=(Q8.1 o).1;unfold vr;rw[i,w];refine F.ds n m v x f o (by rw[<-g];exact j) (by rw[<-t];exact k) l ?_
  rcases e with e | ⟨e,-⟩
  ·rw[<-e];exact y
  ·exact Q1 e
theorem xA.more(R:kP T d)(E:rR T (aj T) d)(F:xA d)(u:St)(l:u.kind=2->2<=u.U6.length/\aJ d.Vi (vr u)=false)(o:d'.Vn=d.Vn++[u])(p:d'.kind=0):xA d':=by
 have q:∀(n:Nat) (s:St),d'.Vn[n]?=some s->(n<d.Vn.length/\d.Vn[n]?=some s)∨(n=d.Vn.length/\s=u):=fun n s a=>by
  rw[o]at a
  by_cases g:n<d.Vn.length
  ·rw[Q7 g]at a;exact Q1 ⟨g,a⟩
  ·have:=(Q8.1 a).1
   rw[Q0]at this;have:n<d.Vn.length+1:=this;rw[Q5 (by omega),show n-d.Vn.length=0 by omega]at a
   cases a
   exact QV ⟨by omega,rfl⟩
 refine⟨fun n s a b=>?_,fun n m s x a A b c k v=>?_,fun h=>by rw[p]at h;cases h⟩
 ·rcases q n s a with ⟨-,h⟩ | ⟨-,rfl⟩
  ·exact F.fl n s h b
  ·exact(l b).1
 ·rcases q m x A with ⟨y,t⟩ | ⟨y,rfl⟩
  ·rcases q n s a with ⟨-,f⟩ | ⟨g,-⟩
   ·exact F.ds n m s x f t b c k v
   ·omega
  ·rcases q n s a with ⟨-,f⟩ | ⟨g,-⟩
   ·have w:=R.hel.le n s f
    have r:s.til=0:=by omega
    have i:=R.Vi E F f b r;have j:=(l c).2
    cases z:((vr s).toList==(vr x).toList)
    ·rfl
    ·have e:(vr s).toList=(vr x).toList:=by simpa using z
     unfold aJ at i j;rw[e]at i;rw[i]at j;cases j
   ·omega
theorem xA.step(z:tF T d)(y:rR T (aj T) d)(R:kP T d)(F:xA d)(p:Pl)(g:(aX d t.s p).1=0):xA (aX d t.s p).2:=by
 rcases z with ⟨G,j,k,n,x⟩ | ⟨G,j,k,n,x,J,I⟩ | ⟨L,w,B,j,H,P,E,O,n,k,K,x,N⟩
 ·have e:aX d t.s p=av d t.s:=by unfold aX;rw[j];rfl
  rw[e]at g ⊢;unfold av bI cw at *;have l:∀f:Db,f.Vn=d.Vn->f.kind≠2->xA f:=fun f m o=>F.same m (fun h=>absurd h o)
  repeat' split
  all_goals first
   | exact F
   | exact F.ended _ rfl j
   | exact l _ rfl (by rw[show _=_ from j];decide)
   | exact l _ rfl (by simp only;decide)
   | exact l _ rfl (by simp only;rw[j];decide)
   | exact l _ rfl (by show d.kind≠2;rw[j];decide)
 ·have e:aX d t.s p=aH d t.s:=by unfold aX;rw[j];rfl
  rw[e]at g ⊢;have l:∀f:Db,f.Vn=d.Vn->f.U6=d.U6->xA f:=fun f m o=>F.same m (fun _ h=>by rw[o,k]at h;simp at h)
  unfold aH
  repeat' split
  all_goals exact l _ rfl rfl
 ·rw[qA E]at g ⊢
  by_cases v:(t.s.toList == [36,46])=true
  ·rw[QW v]at g ⊢
   unfold lL at *
   split at g
   ·cases g
   ·next u =>
    rw[QT u]
    split at g
    ·cases g
    ·next C =>
     rw[QT C];simp only
     cases c:((d.kind==7)||(d.kind==8))
     ·simp only[Bool.or_eq_false_iff]at c
      have r:(aY d p).Vn=d.Vn++[⟨d.kind,d.label,d.U6,d.Vh,p,0⟩]:=by
       unfold aY mY mO;rw[c.1,c.2];simp only[Bool.false_eq_true,if_false]
       split <;> rfl
      refine xA.more R y F ⟨d.kind,d.label,d.U6,d.Vh,p,0⟩ (fun b=>?_) r rfl;replace b:d.kind=2:=b
      have a:2<=d.U6.length:=by
       unfold l5 at u;rw[QW (QV (by rw[b];rfl))]at u;omega
      exact⟨a,F.op b a⟩
     ·have r:(aY d p).Vn=d.Vn:=by
       unfold aY dO;rw[RB]at c
       split
       ·rfl
       ·next q=>rw[QW (c.resolve_left q)]
      exact F.same r (fun h=>by cases h)
  ·rw[QT v]at g ⊢
   split
   ·unfold b7
    split <;> exact F.same rfl F.op
   ·split
    ·exact F
    ·split
     ·exact F.same rfl F.op
     ·split
      ·next D =>
       refine F.same rfl (fun b a=>?_);replace b:d.kind=2:=b;replace a:2<=(d.U6++[t.s]).length:=a;rw[Q0]at a;replace a:2<=d.U6.length+1:=a;have i:aZ d t.s=0:=by simpa using D
       unfold aZ at i;rw[b,QT (by decide),QT (by decide),QT (by decide),QT (by omega),QW (by rfl)]at i;unfold fC at i
       split at i
       ·cases i
       ·next M =>
        split at i
        ·cases i
        ·split at i
         ·cases i
         ·next A =>
          show aJ d.Vi ((d.U6++[t.s]).getD 1 ⟨#[]⟩)=false
          have m:(d.U6++[t.s]).getD 1 ⟨#[]⟩=t.s:=by
           rw[QQ,Q5 (by omega),show 1-d.U6.length=0 by omega];rfl
          rw[m];simpa using A
      ·exact F
theorem kP.flo(R:kP T d)(F:xA d):PM T (aj T):=by
 intro j h c;have a:j∈lV (aj T):=RH.2 ⟨Ra.2 h,by unfold nu;rw[c];simp⟩;rw[wQ]at a;obtain⟨n,b,rfl⟩:=Si.1 a;have b:n<d.Vn.length:=by rw[R.hel.len];exact Ra.1 b
 obtain⟨s,i,f,-,g⟩:=R.get b
 have k:s.kind=2:=by
  have:=(fS f).2.1;rw[c]at this;simpa using this
 have e:=F.fl n s i k;rw[g]at e;exact⟨e,Bi T _ 1 (by omega)⟩
end
section
variable {T:List Tk} {t:Tk} {d:Db}
structure oj(T:List Tk)(d:Db):Prop where
 e:rR T (aj T) d
 o:tF T d
 u:∀j,j<T.length->bh T (aj T) j=0
 b:jz T=(d.blocks.length:Int)
 r:kP T d
 f:xA d
theorem Bu:jz (f++[I])=aO (jz f) I.s:=by
 unfold jz;rw[Sw];rfl
theorem oj.step(I:oj T d)(m:T.length<=100000)(H:(t.s.toList == [])=false)(p:Pl):bh (T++[t]) (aj (T++[t])) T.length=(aX d t.s p).1/\((aX d t.s p).1=0->oj (T++[t]) (aX d t.s p).2):=by
 obtain⟨z,q⟩:=Ao T m I.u;have v:=Bk T t m I.u
 have g:bh (T++[t]) (aj (T++[t])) T.length=(aX d t.s p).1/\((aX d t.s p).1=0->rR (T++[t]) (aj (T++[t])) (aX d t.s p).2/\tF (T++[t]) (aX d t.s p).2):=by
  rcases I.o with ⟨n,i,c,a,k⟩ | ⟨n,i,c,a,k,x,w⟩ | ⟨g,D,B,i,l,E,C,A,a,c,y,k,F⟩
  ·have e:aX d t.s p=av d t.s:=by unfold aX;rw[i];rfl
   rw[v,QW n.symm,e];exact Fl z q I.e n i c a k H
  ·have e:aX d t.s p=aH d t.s:=by unfold aX;rw[i];rfl
   obtain⟨L,M⟩:=Mv (t:=t) z q I.e n c a k x w;rw[v,QT (by omega),L,QW (by simp),e];exact M
  ·rw[v,QT (by omega),sO i l E C,QT (by simp only;omega)]
   simp only;rw[A];exact JR z q I.e i l E C A a c y k F p
 refine⟨g.1,fun h=>?_⟩;obtain⟨J,K⟩:=g.2 h;refine⟨J,K,fun j G=>?_,?_,kP.step I.o I.e I.u I.r m p h,xA.step I.o I.e I.r I.f p h⟩
 ·rw[Q0,Rp,Rs]at G
  by_cases e:j<T.length
  ·exact rm T [t] m I.u j e
  ·have e:j=T.length:=by omega
   rw[e,g.1];exact h
 ·rw[Bu,I.b,Dc I.o t.s p h]
theorem Gt(h:0<f.length):∃u,f.getLast?=some u/\u.s=tS f (f.length-1):=by
 rw[SO,QP (by omega)];refine⟨_,rfl,?_⟩;unfold tS;rw[QQ,QP (by omega)];rfl
theorem oj.open(I:oj T d):kp d=!dg T:=by
 have p:=fw T;have t:=I.b
 have a:fA T<T.length->dg T=false:=fun h=>by
  obtain⟨u,i,j⟩:=Gt T (by omega);have:=p.n (T.length-1) (by unfold fA at h;omega) (by omega);unfold dg;rw[i];simp only;rw[j,this];rfl
 unfold kp
 rcases I.o with ⟨D,g,f,c,x⟩ | ⟨D,g,f,c,x,H,G⟩ | ⟨r,w,B,g,E,M,m,L,c,f,J,x,K⟩
 ·rw[g]
  have y:(bne (0:Int) 0)=false:=rfl;rw[y,Sp]
  by_cases C:T.length=0
  ·have e:T=[]:=Rk C
   rw[e]at t ⊢
   have:d.blocks.length=0:=by
    have h:jz []=0:=rfl;omega
   rw[this];rfl
  ·obtain⟨u,i,j⟩:=Gt T (by omega)
   have F:0<(aj T).length:=by
    rcases Nat.eq_zero_or_pos (aj T).length with h | h
    ·have:=EL T
     rw[h]at this;unfold kz at this;rw[QT (by omega)]at this;omega
    ·exact h
   have q:(au (aj T) ((aj T).length-1)).z=T.length:=by
    have:=EL T;unfold kz at this;rw[QW F]at this;omega
   have v:=(p.s ((aj T).length-1) (by omega)).1.e;rw[q]at v;unfold dg;rw[i];simp only;rw[j,v,Sv,t]
   by_cases q:d.blocks.length=0
   ·rw[q];rfl
   ·have A:((d.blocks.length:Int)==0)=false:=UV (by omega)
    rw[A,SM (show 0<d.blocks.length by omega)];rfl
 ·rw[g,a (by omega)];rfl
 ·rw[a (by omega)]
  have:(d.kind != 0)=true:=by
   generalize d.kind=k at m ⊢;generalize r.toList=l at m
   (rcases m with ⟨rfl,rfl⟩ | ⟨rfl,rfl⟩ | ⟨rfl,rfl⟩ | ⟨rfl,rfl⟩ | ⟨rfl,rfl⟩ | ⟨rfl,rfl⟩ | ⟨rfl,rfl⟩) <;> rfl
  rw[this];rfl
theorem Lm(h:y=⟨[],[],[],[],[],[],[],[],0,⟨#[]⟩,[],false,[]⟩):oj [] y:=by
 subst h;refine⟨⟨rfl,fun x=>rfl,⟨rfl,rfl,fun i a=>(by simp at a)⟩,⟨rfl,rfl,fun i a=>(by simp at a)⟩⟩,tF.none rfl rfl rfl rfl rfl,fun j b=>(by simp at b),rfl,⟨np.nil,(fun n s h=>by cases h),rfl⟩,⟨(fun n s h=>by cases h),(fun n m s u h=>by cases h),fun h=>by cases h⟩⟩
end
end Go.Proofs.YtpddjjabfbfifaaGreat
