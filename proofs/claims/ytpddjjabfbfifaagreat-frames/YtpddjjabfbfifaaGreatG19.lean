import Derived.Test.YtpddjjabfbfifaaGreatG03
import Derived.Test.YtpddjjabfbfifaaGreatG13
namespace Go.Proofs.YtpddjjabfbfifaaGreat
open Go.RowKit Tryz
set_option maxRecDepth 100000
set_option maxHeartbeats 40000000
variable{z3:Int}{S N:List Tk}{d zb:Nat}{z6 y0:Nat->Bool}{o:List Nat}{f:List Sm}{M z0:Nat->List ByteArray}{z5:Sm}{k:List ByteArray}{y z4:Db}{D:List UInt8}{x:ByteArray}(I:ByteArray)(v l:List Tk)(z1 n:List Sm)(z7:Int)(g:List Nat)(H:ByteArray)(T:Nat)(zt:Bool)(a:List ByteArray)(w:ByteArray)(z2:Nat->Bool)(L:Tk)(i:Sm)(b:Nat)
def lG(nm d:ByteArray)(i:rS):Tk:=⟨i.text,i.rule,nm,aP d i.pos,bm d i.pos⟩
def Oi(nm d:ByteArray):Nat->Nat->List Tk
 | 0,_=>[]
 | f+1,k=>lG nm d (bC d k).1 :: (if aI (bC d k).1=true then Oi nm d f (bC d k).2 else [])
def mR(nm d:ByteArray)(k:Nat):List Tk:=Oi nm d (d.size-k+1) k
theorem MS(a:b<=H.size)(c:H.size-b+1<=T):Oi I H T b=mR I H b:=by
 unfold mR
 suffices h:∀T g b,b<=H.size->H.size-b+1<=T->H.size-b+1<=g->Oi I H T b=Oi I H g b from h _ _ _ a c (QQ _)
 clear c a T b;intro T
 induction T with
 | zero=>intro g b _ h;omega
 | succ T e =>
  intro g b a c i
  cases g with
  | zero=>omega
  | succ g =>
   rw[Oi,Oi]
   split
   ·next h =>
    have d:=gq H b a;have f:=d.2.2 h;rw[e g _ d.2.1 (by omega) (by omega)]
   ·rfl
theorem lD(c:b<=w.size)(h:aI (bC w b).1=true):mR H w b=lG H w (bC w b).1 :: mR H w (bC w b).2:=by
 have a:=gq w b c;have d:=a.2.2 h
 conv=>lhs;unfold mR
 rw[Oi,QV h,MS H w _ _ a.2.1 (by omega)]
theorem j7(h:aI (bC w b).1=false):mR H w b=[lG H w (bC w b).1]:=by
 unfold mR;rw[Oi,QS (by simp[h])]
theorem E7(h:b<w.size)(a:cO (aF w b)=true):bC w b=bC w (b+1):=by
 unfold bC;rw[GJ w b h a]
theorem uU(h:b<w.size)(c:cO (aF w b)=true):mR H w b=mR H w (b+1):=by
 have e:=E7 w b h c
 cases a:aI (bC w b).1
 ·rw[j7 H w b a,j7 H w (b+1) (by rw[<-e];exact a),e]
 ·rw[lD H w b (by omega) a,lD H w (b+1) (by omega) (by rw[<-e];exact a),e]
theorem Dq:∀a,(∀j,a<=j->j<a+b->j<w.size/\cO (aF w j)=false/\fn (aF w j)=true)->cG w a=cG w (a+b):=by
 induction b with
 | zero=>intro a _;rfl
 | succ b d =>
  intro a h;have c:=h a (by omega) (by omega);rw[GS w a c.1 c.2.1 c.2.2,d (a+1) (fun j f e=>h j (by omega) (by omega))]
  congr 1;omega
theorem DH(h:qG z3=false)(a:cO z3=false):fn z3=true:=by
 unfold qG at h;rw[a]at h;simpa using h
theorem CW(a:T<b)(g:b<=H.size)(c:∀j,T<=j->j<b->cO (aF H j)=false/\fn (aF H j)=true)(f:b<H.size->cO (aF H b)=true):bC H T=(⟨H.extract T b,0,false,T⟩,b):=by
 have d:=Dq H (b-T) T (fun j e i=>⟨by omega,c j e (by omega)⟩);rw[show T+(b-T)=b by omega]at d;refine zc H T T b (tu H T (fun h=>?_)).symm d.symm (fun h=>?_) a
 ·rw[(c T (QQ _) a).1]at h;simp at h
 ·rw[f h.1]at h;simp at h
theorem oe:∀j,di w b<=j->j<b->cO (aF w j)=false:=by
 induction b with
 | zero=>intro j _ h;omega
 | succ b d =>
  intro j a f;rw[di]at a
  split at a
  ·omega
  ·next c =>
   by_cases e:j=b
   ·rw[e];simpa using c
   ·exact d j a (by omega)
theorem xw(k:b<=w.size)(d:∀j,j<b->qG (aF w j)=false):mR H w 0=jd H w b++mR H w (di w b):=by
 induction b with
 | zero=>rfl
 | succ b c =>
  have c:=c (by omega) (fun j i=>d j (by omega));rw[jd,di]
  cases a:cO (aF w b)
  ·rw[QS (by simp),QS (by simp)];exact c
  ·rw[QV rfl,QV rfl]
   have l:=og w b;unfold je
   split
   ·next e =>
    rw[c,e,uU H w b (by omega) a]
   ·next e =>
    have g:=CW w (di w b) b (by omega) (by omega) (fun j h f=>⟨oe w b j h f,DH (d j (by omega)) (oe w b j h f)⟩) (fun _=>a);rw[c,lD H w (di w b) (by omega) (by rw[g];rfl),g,<-uU H w b (by omega) a];simp[lG,md]
theorem FK:ij H w=mR H w 0:=by
 unfold ij
 cases d:jF w with
 | some i =>
  unfold jF at d;rw[Si]at d;obtain⟨c,b,q⟩:=d;have b:=Q9.1 b;have f:∀j,j<i->qG (aF w j)=false:=fun j l=>by simpa using q j l
  have p:=og w i;have k:∀j,di w i<=j->j<di w i+(i-di w i)->j<w.size/\cO (aF w j)=false/\fn (aF w j)=true:=fun j c b=>⟨by omega,oe w i j c (by omega),DH (f j (by omega)) (oe w i j c (by omega))⟩
  have m:fn (aF w i)=false/\cO (aF w i)=false:=by
   unfold qG at c;simpa using c
  have o:=Dq w (i-di w i) (di w i) k;rw[show di w i+(i-di w i)=i by omega]at o
  have n:di w i=skip w (di w i):=(tu w _ (fun h=>by
   by_cases e:di w i=i
   ·rw[e,m.2]at h;simp at h
   ·rw[(k (di w i) (QQ _) (by omega)).2.1]at h;simp at h)).symm
  have g:=CU w (di w i) (di w i) i n o.symm b m.2 m.1;simp only;rw[xw H w i (by omega) f,j7 H w (di w i) (by rw[g];rfl),g];simp[lG,md]
 | none =>
  have f:∀j,j<w.size->qG (aF w j)=false:=fun j l=>by
   unfold jF at d;rw[Sj]at d;simpa using d j (Q9.2 l)
  have p:=og w w.size;have a:bC w w.size=(⟨⟨#[]⟩,0,true,w.size⟩,w.size):=CV w w.size w.size w.size (tu w _ (fun h=>by omega)).symm rfl (fun h=>by omega) (QQ _);simp only;rw[xw H w w.size (QQ _) f];unfold je
  split
  ·next e =>
   rw[e,j7 H w w.size (by rw[a];rfl),a];simp[lG,md]
  ·next e =>
   have g:=CW w (di w w.size) w.size (by omega) (QQ _) (fun j c b=>⟨oe w _ j c b,DH (f j b) (oe w _ j c b)⟩) (fun h=>by omega);rw[lD H w (di w w.size) p (by rw[g];rfl),g,j7 H w w.size (by rw[a];rfl),a];simp[lG,md]
def Oc(nm d:ByteArray):Nat->Nat->List Tk
 | 0,_=>[]
 | f+1,k=>lG nm d (ay d k).1 :: (if aI (ay d k).1=true then Oc nm d f (ay d k).2 else [])
def lY(nm d:ByteArray)(k:Nat):List Tk:=Oc nm d (d.size-k+1) k
theorem Mz(a:b<=H.size)(c:H.size-b+1<=T):Oc I H T b=lY I H b:=by
 unfold lY
 suffices h:∀T g b,b<=H.size->H.size-b+1<=T->H.size-b+1<=g->Oc I H T b=Oc I H g b from h _ _ _ a c (QQ _)
 clear c a T b;intro T
 induction T with
 | zero=>intro g b _ h;omega
 | succ T e =>
  intro g b a c i
  cases g with
  | zero=>omega
  | succ g =>
   rw[Oc,Oc]
   split
   ·next h =>
    have d:=fG H b a;have f:=d.2.2 h;rw[e g _ d.2.1 (by omega) (by omega)]
   ·rfl
theorem j6(c:b<=w.size)(h:aI (ay w b).1=true):lY H w b=lG H w (ay w b).1 :: lY H w (ay w b).2:=by
 have a:=fG w b c;have d:=a.2.2 h
 conv=>lhs;unfold lY
 rw[Oc,QV h,Mz H w _ _ a.2.1 (by omega)]
theorem j5(h:aI (ay w b).1=false):lY H w b=[lG H w (ay w b).1]:=by
 unfold lY;rw[Oc,QS (by simp[h])]
theorem Fo(d:T<=H.size)(c:b<=H.size)(h:ay H T=ay H b):lY I H T=lY I H b:=by
 cases a:aI (ay H T).1
 ·rw[j5 I H T a,j5 I H b (by rw[<-h];exact a),h]
 ·rw[j6 I H T d a,j6 I H b c (by rw[<-h];exact a),h]
theorem GO(c:UInt8):ii w ⟨#[36,c]⟩=(List.range w.size).any (fun i=>decide (1<=i)&&(aF w (i-1)==36)&&(aF w i==(c.toNat:Int))):=by
 have d:(⟨#[36,c]⟩:ByteArray).size=2:=rfl
 have b:∀i,i+2<=w.size->(rN w ⟨#[36,c]⟩ i=((aF w i==36)&&(aF w (i+1)==(c.toNat:Int)))):=fun i a=>by
  have e:(w.extract i (i+2)).toList=[w[i]'(by omega),w[i+1]'(by omega)]:=by
   apply UM
   ·rw[RY];simp;omega
   ·intro n m g
    simp only[Ro,Rr]at g;have k:n=0∨n=1:=by omega
    simp only[RY,ByteArray.data_extract,Array.getElem_toList,Array.getElem_extract]
    rcases k with rfl | rfl <;> rfl
  unfold rN;rw[d,e,bP w i (by omega),bP w (i+1) (by omega)];have l:(⟨#[36,c]⟩:ByteArray).toList=[36,c]:=by rw[RY]
  rw[l]
  have j:∀x:UInt8,((x.toNat:Int)==36)=(x==36):=fun x=>by
   rw[Sz];simp only[Tw]
   constructor
   ·intro h;exact UInt8.toNat_inj.1 (by rw[show x.toNat=36 by omega];rfl)
   ·rintro rfl;rfl
  have f:∀x:UInt8,((x.toNat:Int)==(c.toNat:Int))=(x==c):=fun x=>by
   rw[Sz];simp only[Tw]
   constructor
   ·intro h;exact UInt8.toNat_inj.1 (by omega)
   ·rintro rfl;rfl
  rw[j,f];simp[Bool.beq_eq_decide_eq,Bool.decide_and]
 unfold ii;rw[d,Sz,RB,RB]
 constructor
 ·rintro ⟨i,a,h⟩
  have a:=Q9.1 a;rw[Rf,Sw]at h;rw[b i h.1]at h;exact⟨i+1,Q9.2 (by omega),by rw[SB,Rf,Rf,Sw];rw[Rf]at h;exact⟨⟨by omega,h.2.1⟩,h.2.2⟩⟩
 ·rintro ⟨i,a,h⟩
  have a:=Q9.1 a;rw[Rf,Rf,Sw]at h;refine⟨i-1,Q9.2 (by omega),?_⟩;rw[Rf,Sw,b (i-1) (by omega),Rf,show i-1+1=i by omega];exact⟨by omega,h.1.2,h.2⟩
theorem uA:kD w=(ii w ⟨#[36,40]⟩||ii w ⟨#[36,41]⟩):=by
 rw[GO,GO,Sz,Rz];unfold kD;simp only[RB,Rf,Rz]
 constructor
 ·rintro ⟨i,c,b,a | a⟩
  ·exact Q0 ⟨i,c,b,a⟩
  ·exact QU ⟨i,c,b,a⟩
 ·rintro (⟨i,c,b,a⟩ | ⟨i,c,b,a⟩)
  ·exact⟨i,c,b,Q0 a⟩
  ·exact⟨i,c,b,QU a⟩
theorem ia:ii w ⟨#[36]⟩=dA w:=by
 have b:(⟨#[36]⟩:ByteArray).size=1:=rfl
 have a:∀i,i+1<=w.size->(rN w ⟨#[36]⟩ i=(aF w i==36)):=fun i c=>by
  have e:(w.extract i (i+1)).toList=[w[i]'(by omega)]:=by
   apply UM
   ·rw[RY];simp;omega
   ·intro n j d
    simp only[Ro,Rr]at d;have f:n=0:=by omega
    simp only[RY,ByteArray.data_extract,Array.getElem_toList,Array.getElem_extract];subst f;rfl
  unfold rN;rw[b,e,bP w i (by omega)];have g:(⟨#[36]⟩:ByteArray).toList=[36]:=by rw[RY]
  rw[g,Sz];simp only[Tw,List.cons.injEq,and_true]
  constructor
  ·intro h;rw[h];rfl
  ·intro h;exact UInt8.toNat_inj.1 (by rw[show(w[i]'(by omega)).toNat=36 by omega];rfl)
 unfold ii dA;rw[b,Sz,RB,RB]
 constructor
 ·rintro ⟨i,c,h⟩
  rw[Rf,Sw]at h;rw[a i h.1]at h;exact⟨i,Q9.2 (by omega),h.2⟩
 ·rintro ⟨i,c,h⟩
  have c:=Q9.1 c;exact⟨i,Q9.2 (by omega),by rw[Rf,Sw,a i (by omega)];exact⟨by omega,h⟩⟩
theorem tq(c:b<=w.size):(aI (bC w b).1=true->((bC w b).1.text.toList == [])=false/\(bC w b).1.rule=0)/\(aI (bC w b).1=false->(bC w b).1.text=⟨#[]⟩/\((bC w b).1.fin=true->(bC w b).1.rule=0)):=by
 have a:=Az w b c;have g:=rP w (skip w b) a.2;unfold bC;simp only
 split
 ·exact⟨fun h=>by simp[aI]at h,fun _=>⟨rfl,fun h=>by cases h⟩⟩
 ·split
  ·exact⟨fun h=>by simp[aI]at h,fun _=>⟨rfl,fun _=>rfl⟩⟩
  ·next i d =>
   refine⟨fun _=>⟨?_,rfl⟩,fun h=>by simp[aI]at h⟩
   have j:(w.extract (skip w b) (cG w (skip w b))).size=cG w (skip w b)-skip w b:=by
    rw[Tv];omega
   cases e:((w.extract (skip w b) (cG w (skip w b))).toList == [])
   ·rfl
   ·have e:(w.extract (skip w b) (cG w (skip w b))).toList=[]:=by simpa using e
    have:=congrArg List.length e;rw[RY]at this;have f:cG w (skip w b)-skip w b=0∨w.size-skip w b=0:=by simpa using this
    omega
theorem KC:∀k,k<=w.size->w.size-k+1<=b ->
  bQ true (mR H w k)=(if aI (aW w k).1=true then bQ false (mR H w (aW w k).2) else [lG H w (aW w k).1]):=by
 induction b with
 | zero=>intro k _ h;omega
 | succ b m =>
  intro k g q;have j:=gq w k g;obtain⟨p,n⟩:=tq w k g
  cases a:aI (bC w k).1
  ·obtain⟨e,f⟩:=n a
   rw[j7 H w k a]
   cases c:(bC w k).1.fin
   ·have l:((bC w k).1.rule==0)=false:=by
     unfold aI at a;rw[c]at a;simpa using a
    rw[uD w k a c,a,QS (by simp),bQ,QV (by exact l)];rw[bQ]
   ·rw[sw w k a c,QS (by simp[aI]),bQ,QS (by simp[lG,f c]),QS (by simp[lG,Du,e]),QV (by simp[lG,Du,e]),bQ]
    rfl
  ·obtain⟨e,f⟩:=p a
   have o:=j.2.2 a;rw[lD H w k g a]
   cases d:((bC w k).1.text.toList == [36,41])
   ·cases i:kD (bC w k).1.text
    ·rw[vR w k g a d i,bQ,QS (by simp[lG,f]),QS (by simp only[lG,Du];rw[d];simp),QS (by simp only[lG,Du];rw[e];simp),QS (by rw[<-uA];simp only[lG];rw[i];simp)]
     exact m _ j.2.1 (by omega)
    ·rw[su w k a d i,QS (by simp[aI]),bQ,QS (by simp[lG,f]),QS (by simp only[lG,Du];rw[d];simp),QS (by simp only[lG,Du];rw[e];simp),QV (by rw[<-uA];exact i)]
     rfl
   ·rw[qM w k a d,QV a,bQ,QS (by simp[lG,f]),QV (by simp only[lG,Du];exact d)]
theorem G1:∀k,k<=w.size->w.size-k+1<=b->bQ false (mR H w k)=lY H w k:=by
 induction b with
 | zero=>intro k _ h;omega
 | succ b j =>
  intro k e o;have i:=gq w k e;obtain⟨p,m⟩:=tq w k e
  cases c:aI (bC w k).1
  ·obtain⟨l,q⟩:=m c
   have a:=rF w k (Q0 c);rw[j7 H w k c,j5 H w k (by rw[a];exact c),a,bQ,QS (by simp[lG,Du,l]),bQ]
  ·have n:=i.2.2 c
   rw[lD H w k e c]
   cases f:((bC w k).1.text.toList == [36,40])
   ·have a:=rF w k (QU f)
    rw[j6 H w k e (by rw[a];exact c),a,bQ,QS (by simp only[lG,Du];rw[f];simp),j _ i.2.1 (by omega)]
   ·have g:=i9 w (bC w k).2 i.2.1
    rw[bQ,QV (by simp only[lG,Du];exact f),KC H w _ _ i.2.1 (QQ _)]
    cases d:aI (aW w (bC w k).2).1
    ·have a:=uL w k c f d
     rw[QS (by simp),j5 H w k (by rw[a];exact d),a]
    ·have a:=Gv w k e c f d
     rw[QV rfl,j _ g.2 (by omega)];exact(Fo H w k _ e g.2 a).symm
theorem zl(a:Fs)(k:Nat):qU a k=lY (aE a k) (ak a k) 0:=by
 unfold qU;rw[FK];exact G1 _ _ _ 0 (Rn _) (QQ _)
theorem fI(h:b<v.length):tS (v++l) b=tS v b:=by
 unfold tS;rw[QP,QP,Q6 h]
theorem oU:tS (l++[L]) l.length=L.s:=by
 unfold tS;rw[QP,Q4 (QQ _),RV];rfl
theorem Ac(h:b+1<v.length):ew (v++l) b=ew v b:=by
 unfold ew;rw[fI v l b (by omega),fI v l (b+1) h,QZ];have a:decide (v.length+l.length<=b+1)=false:=by simp;omega
 have c:decide (v.length<=b+1)=false:=by simp;omega
 rw[a,c]
theorem Iy(d:T<=b)(c:b<v.length)(a:bS (tS v b)=true):ew (v++l) T=ew v T:=by
 by_cases e:T=b
 ·subst e
  unfold ew;rw[fI v l T c,(kL a).1];simp
 ·exact Ac v l T (by omega)
theorem wG(d:b<=v.length):eO (v++l) b=eO v b:=by
 induction b with
 | zero=>rfl
 | succ b a =>
  rw[eO,eO,a (by omega),fI v l b (by omega)]
  cases c:bS (tS v b)
  ·rfl
  ·rw[Iy v l _ b (LJ v b) (by omega) c]
theorem EF:∃M,(eO l (T+b)).1=(eO l T).1++M/\∀m∈M,T<m.z:=by
 induction b with
 | zero=>exact⟨[],by simp,by simp⟩
 | succ b e =>
  obtain⟨M,c,a⟩:=e;rw[show T+(b+1)=(T+b)+1 by omega,eO]
  split
  ·refine⟨M++[⟨(eO l (T+b)).2,T+b+1,(ew l (eO l (T+b)).2).2,(ew l (eO l (T+b)).2).1⟩],by simp only[c,Sx],fun m d=>?_⟩
   rcases Rq.1 d with h | h
   ·exact a m h
   ·rw[Q8.1 h];show T<T+b+1;omega
  ·exact⟨M,c,a⟩
theorem zj:∃M,aj (v++l)=aj v++M/\∀m∈M,v.length<m.z:=by
 obtain⟨M,a,b⟩:=EF (v++l) v.length l.length;refine⟨M,?_,b⟩;unfold aj;rw[QZ,a,wG v l _ (QQ _)]
def fA(T:List Tk):Nat:=(eO T T.length).2
theorem EJ:fA l=kt (aj l) (aj l).length:=(fw l).fr
theorem oQ:aj (l++[L])=(if bS L.s=true then aj l++[⟨fA l,l.length+1,(ew (l++[L]) (fA l)).2,(ew (l++[L]) (fA l)).1⟩] else aj l)/\fA (l++[L])=(if bS L.s=true then l.length+1 else fA l):=by
 unfold aj fA;rw[QZ,Ro,Rr,eO,wG l [L] l.length (QQ _),oU]
 split <;> exact⟨rfl,rfl⟩
theorem jL(h:b<z1.length):au (z1++n) b=au z1 b:=by
 unfold au;rw[QP,QP,Q6 h]
theorem Bd(h:b<=z1.length):kt (z1++n) b=kt z1 b:=by
 unfold kt
 split
 ·rw[jL z1 n (b-1) (by omega)]
 ·rfl
theorem F3(S M:List Sm)(h:∀m∈M,b<m.z):nr b (S++M)=nr b S:=by
 induction S with
 | nil =>
  cases M with
  | nil=>rfl
  | cons m M =>
   have:=h m (by simp)
   show(if m.z<=b then nr b M+1 else 0)=0
   rw[QS (by omega)]
 | cons s S a=>rw[Th,nr,nr,a]
theorem ri(h:b<=z1.length):aV (z1++n) T b=aV z1 T b:=by
 unfold aV
 by_cases a:T<=z1.length
 ·rw[Sf a,Sn (by rw[RQ];omega)]
 ·rw[show b-T=0 by omega];simp
theorem lm(h:b<=z1.length):bb (z1++n) b=bb z1 b:=by
 unfold bb;rw[Sn h]
theorem yi(h:∃u∈v,mL u.s=true):kc (v++l)=kc v:=by
 induction v with
 | nil=>obtain⟨u,b,-⟩:=h;cases b
 | cons a v e =>
  rw[Th,kc,kc]
  split
  ·rfl
  ·next d =>
   rw[e];obtain⟨u,b,c⟩:=h
   rcases Ri.1 b with rfl | b
   ·exact absurd c d
   ·exact⟨u,b,c⟩
theorem JV(c:cU S d):∃u∈S.drop d,mL u.s=true:=by
 obtain⟨e,f,b,a⟩:=c;refine⟨S[e],?_,?_⟩
 ·rw[List.mem_iff_getElem?]
  exact⟨e-d,by rw[SU,show d+(e-d)=e by omega,QO b]⟩
 ·unfold tS at a
  rw[QP,QO b]at a;exact a
theorem se(a:cU v b):bu (v++l) b=bu v b:=by
 have c:b<=v.length:=by obtain⟨e,f,d,-⟩:=a;omega
 unfold bu;rw[Sf c,yi _ _ (JV a)]
theorem JU(c:cU v b):cU (v++l) b:=by
 obtain⟨e,f,a,d⟩:=c;exact⟨e,f,by rw[QZ];omega,by rw[fI v l e a];exact d⟩
theorem lk(h:∀j,j<d->z6 j=y0 j):(List.range d).any z6=(List.range d).any y0:=by
 rw[Sz,RB,RB]
 constructor
 ·rintro ⟨j,a,b⟩;exact⟨j,a,by rw[<-h j (Q9.1 a)];exact b⟩
 ·rintro ⟨j,a,b⟩;exact⟨j,a,by rw[h j (Q9.1 a)];exact b⟩
theorem wa{q:Nat->Bool}(h:∀j∈o,z6 j=q j):o.find? z6=o.find? q:=by
 induction o with
 | nil=>rfl
 | cons a o c =>
  rw[List.find?_cons,List.find?_cons,h a (by simp),c (fun j b=>h j (by simp[b]))]
section
variable {T U:List Tk} {S M:List Sm} {n:Nat}
theorem vS(c:n<=S.length)(b:∀j,j<n->((au S j).k.toList==I.toList)=true->cU T (au S j).h):jq (T++U) (S++M) I H n zt=jq T S I H n zt:=by
 unfold jq;refine lk (fun j a=>?_);unfold pF;rw[jL S M j (by omega),ri S M j n c]
 cases h:((au S j).k.toList==I.toList)
 ·rfl
 ·rw[se T U _ (b j a h)]
theorem tM(a:il T S n):eF (T++U) (S++M) w n=eF T S w n:=vS _ w _ a.m (by rw[nQ.1];exact a.c)
theorem GP(a:il T S n):kV (T++U) (S++M) w n=kV T S w n:=vS _ w _ a.m (by rw[nQ.2];exact a.v)
theorem yI(h:i.a<T.length):bG (T++U) i=bG T i:=by
 unfold bG;rw[fI T U i.a h]
theorem sO(c:il T S n):bE (T++U) (S++M) w n=bE T S w n:=by
 unfold bE
 rw[wa (q:=qK T S w) (fun j b=>by
  have b:=Q9.1 b;have:=c.m;unfold qK;rw[jL S M j (by omega),yI _ (c.a j b)])]
theorem zk(a:il T S n):jC (T++U) (S++M) w n=jC T S w n:=by
 unfold jC;rw[sO w a,tM w a,vS _ w _ a.m (by rw[nQ.2];exact a.v)]
theorem Ij(b:il T S n)(c:l6 T S n):gg (T++U) (S++M) w n=gg T S w n:=by
 unfold gg
 rw[wa (q:=tU T S w n) (fun j a=>by
  have a:=Q9.1 a;have:=b.m;unfold tU;rw[jL S M j (by omega),ri S M j n b.m]
  cases h:((au S j).k.toList == [36,102])
  ·rfl
  ·rw[fI T U _ (c j a h)])]
theorem IT(b:il T S n):jW (T++U) (S++M) H n zt a=jW T S H n zt a:=by
 unfold jW;rw[zk H b,sO H b,tM H b,GP H b]
theorem Fm(b:il T S n)(c:l6 T S n):jm (T++U) (S++M) I H n a=jm T S I H n a:=by
 unfold jm;rw[tM H b,GP H b,Ij H b c]
theorem CP(b:il T S n)(c:l6 T S n):lV (T++U) (S++M) I H n a=lV T S I H n a:=by
 unfold lV;rw[IT H _ a b,Fm I H a b c]
theorem yx(a:il T S n):dw (T++U) (S++M) w n=dw T S w n:=by
 unfold dw;rw[lm S M n a.m,zk w a]
end
theorem FY(a:T<=b)(c:b<=v.length):fa (v++l) T b=fa v T b:=by
 unfold fa;rw[Sf (by omega),Sn (by rw[RQ];omega)]
theorem vO(n:v.length<=100000)(i:Nat)(c:i<v.length)(a:∀j,j<i->bh v (aj v) j=0):bh (v++l) (aj (v++l)) i=bh v (aj v) i:=by
 obtain⟨b,h⟩:=Oq v n i c a;obtain⟨M,k,g⟩:=zj v l;rw[k];generalize aj v=S at *;have f:i8 (S++M) i=i8 S i:=F3 i S M (fun m d=>by have:=g m d;omega);have p:=KJ S i;unfold bh;rw[f,Bd S M _ b.m,fI v l i c]
 by_cases e:i=kt S (i8 S i)
 ·rw[QV e,QV e,yx _ b]
 ·rw[QS e,QS e,Ac v l _ (by omega)]
  split
  ·rfl
  ·next o =>
   rw[CP _ _ _ b h,FY v l _ i (by omega) (by omega)]
theorem rk(b:v.length<=100000)(h:∀j,j<v.length->bh v (aj v) j=0):∀j,j<v.length->bh (v++l) (aj (v++l)) j=0:=fun j a=>by
 rw[vO v l b j a (fun q c=>h q (by omega))];exact h j a
def uG(o:Int)(L:List Sm):Int:=L.foldl (fun o s=>aO o s.k) o
theorem yl(c:Int)(k:ByteArray):aO (z7+c) k=aO z7 k+c:=by
 unfold aO
 split <;> split <;> omega
theorem BH:∀o c,uG (o+c) n=uG o n+c:=by
 induction n with
 | nil=>intro o c;rfl
 | cons s n a =>
  intro o c
  show uG (aO (o+c) s.k) n=uG (aO o s.k) n+c
  rw[yl,a]
theorem GU:∀o,qD o (n++[i])=(qD o n&&decide (0<=uG o (n++[i]))):=by
 induction n with
 | nil =>
  intro o
  show(if aO o i.k<0 then false else qD (aO o i.k) [])=(qD o []&&decide (0<=aO o i.k))
  simp only[qD]
  by_cases h:aO o i.k<0
  ·rw[QV h];simp;omega
  ·rw[QS h];simp;omega
 | cons a n b =>
  intro o;rw[Th,qD,qD]
  by_cases h:aO o a.k<0
  ·rw[QV h,QV h];rfl
  ·rw[QS h,QS h,b];rfl
theorem Eb(a:T<=b):uG 0 ((n.drop T).take (b-T))=bb n b-bb n T:=by
 have e:n.take b=n.take T++(n.drop T).take (b-T):=by
  rw[show b=T+(b-T) by omega,List.take_add];simp
 have c:bb n b=uG (bb n T) ((n.drop T).take (b-T)):=by
  unfold bb uG;rw[e,Sv]
 have:=BH ((n.drop T).take (b-T)) 0 (bb n T);rw[Int.zero_add]at this;omega
theorem rV(c:T<=b)(d:b<n.length):aV n T (b+1)=(aV n T b&&decide (bb n T<=bb n (b+1))):=by
 have e:(n.drop T).take (b+1-T)=(n.drop T).take (b-T)++[n[b]]:=by
  rw[show b+1-T=(b-T)+1 by omega,RC (by rw[RQ];omega),TH]
  congr 3;omega
 have a:=Eb n T (b+1) (by omega);unfold aV;rw[e]at a ⊢;rw[GU,a]
 congr 1
 rw[decide_eq_decide];omega
theorem A7:aV n b b=true:=by
 unfold aV;rw[RV,Tp,qD]
theorem DC(g:T<=b)(i:b<=n.length)(h:aV n T b=true):∀m,T<=m->m<=b->bb n T<=bb n m:=by
 induction b with
 | zero =>
  intro m a c;have e:m=T:=by omega
  rw[e];exact TI _
 | succ b d =>
  intro m a c
  by_cases e:T=b+1
  ·have e:m=T:=by omega
   rw[e];exact TI _
  ·rw[rV n T b (by omega) (by omega),Rf,Sw]at h
   by_cases f:m=b+1
   ·rw[f];exact h.2
   ·exact d (by omega) (by omega) h.1 m a (by omega)
def j8(S:List Sm)(n:Nat):List Nat:=(List.range n).filter (fun j=>aV S j n)
theorem io(h:zb∈j8 f d):zb<d:=Q9.1 (RG.1 h).1
theorem DB(e:b<=n.length):(j8 n b).Pairwise (fun a c=>bb n a<=bb n c):=by
 have h:=(Uh (n:=b)).filter (fun j=>aV n j b);refine h.imp_of_mem (fun {a c} ha d hab=>?_);have d:=io d;exact DC n a b (by omega) e (RG.1 ha).2 c (by omega) (by omega)
theorem Fg{f:Nat->Int}(h:g.Pairwise (fun a b=>f a<=f b)):g=g.filter (fun j=>decide (f j<=z7))++g.filter (fun j=>!decide (f j<=z7)):=by
 induction g with
 | nil=>rfl
 | cons a g c =>
  obtain⟨l,k⟩:=List.pairwise_cons.1 h;have c:=c k
  by_cases d:f a<=z7
  ·rw[SF (by simpa using d),Sr (by simpa using d),Th,<-c]
  ·have e:g.filter (fun j=>decide (f j<=z7))=[]:=by
    rw[Tg];intro b i;have:=l b i;simp;omega
   rw[Sr (by simpa using d),SF (by simpa using d),e];rw[e]at c;rw[Ut]at c ⊢;rw[<-c]
theorem dW(h:∀j,j<d->z6 j=y0 j):(List.range d).filter z6=(List.range d).filter y0 :=
 Ui (fun j a=>h j (Q9.1 a))
theorem hZ:bb (n++[i]) (n.length+1)=aO (bb n n.length) i.k:=by
 rw[uF (n++[i]) n.length (by simp),lm n [i] _ (QQ _)]
 congr 2
 simp
theorem rh:j8 (n++[i]) (n.length+1)=(j8 n n.length).filter (fun j=>decide (bb n j<=aO (bb n n.length) i.k))++(if 0<=aO 0 i.k then [n.length] else []):=by
 unfold j8;rw[R4,RU,UF]
 congr 1
 ·refine dW (fun j a=>?_)
  rw[rV (n++[i]) j n.length (by omega) (by simp),ri n [i] j _ (QQ _),lm n [i] j (by omega),hZ,U4]
 ·have e:aV (n++[i]) n.length (n.length+1)=decide (0<=aO 0 i.k):=by
   rw[rV (n++[i]) n.length n.length (QQ _) (by simp),A7,lm n [i] _ (QQ _),hZ,Su,decide_eq_decide];have:=yl 0 (bb n n.length) i.k;rw[Int.zero_add]at this;omega
  by_cases h:0<=aO 0 i.k
  ·rw[QV h,SF (by rw[e];simpa using h)];rfl
  ·rw[QS h,Sr (by rw[e];simpa using h)];rfl
theorem GV(a:d<=f.length)(h:zb∈j8 f d):bb f zb<=bb f d:=by
 have b:=io h;exact DC f zb d (by omega) a (RG.1 h).2 d (by omega) (QQ _)
structure rT(F:Nat->List ByteArray)(S:List Sm)(L:List ByteArray)(B:List Nat):Prop where
 l:L=(j8 S S.length).flatMap F
 b:(B.length:Int)=bb S S.length
 o:∀i,i<B.length->B[i]?=some (((j8 S S.length).filter (fun j=>decide (bb S j<=(i:Int)))).flatMap F).length
theorem dx{G:Nat->List ByteArray}(h:∀j∈o,M j=G j):o.flatMap M=o.flatMap G:=by
 induction o with
 | nil=>rfl
 | cons a o c=>rw[RH,RH,h a (by simp),c (fun j b=>h j (by simp[b]))]
theorem rs(b:d<=f.length)(c:bb f d<=z3):(j8 f d).filter (fun j=>decide (bb f j<=z3))=j8 f d :=
 List.filter_eq_self.2 (fun j a=>by have:=GV b a;simp;omega)
theorem cg:(n++[i]).length=n.length+1:=by simp
theorem pd(b:d<=f.length)(c:Int):(j8 f d).filter (fun j=>decide (bb (f++[z5]) j<=c))=(j8 f d).filter (fun j=>decide (bb f j<=c)) :=
 Ui (fun j a=>by rw[lm f [z5] j (by have:=io a;omega)])
theorem rT.norm(h:rT M f k o)(s:Sm)(c:∀g,aO g s.k=g)(d:∀j,j<f.length->z0 j=M j):rT z0 (f++[s]) (k++z0 f.length) o:=by
 have e:=rh f s;rw[c,c,QV (TI _),rs (QQ _) (TI _)]at e;have m:=h.b;refine⟨?_,?_,fun i n=>?_⟩
 ·rw[cg,e,Sg,h.l,dx (fun j a=>d j (io a))];simp
 ·rw[cg,hZ,c];exact m
 ·rw[cg,e,RU,pd (QQ _),Sr (by rw[lm f [s] _ (QQ _)];simp;omega),List.filter_nil,Rk,dx (fun j a=>d j (io (RG.1 a).1))]
  exact h.o i n
theorem rT.push(h:rT M f k o)(s:Sm)(d:∀q,aO q s.k=q+1)(m:∀j,j<f.length->z0 j=M j)(n:z0 f.length=[]):rT z0 (f++[s]) k (o++[k.length]):=by
 have e:=rh f s;rw[d,d,QV (by omega),rs (QQ _) (by omega)]at e;have u:=h.b
 have g:∀p:Nat->Bool,([f.length].filter p).flatMap z0=[]:=fun p=>by
  rw[List.flatMap_eq_nil_iff];intro j a;have:=Q8.1 (RG.1 a).1;rw[this];exact n
 refine⟨?_,?_,fun i r=>?_⟩
 ·rw[cg,e,Sg,h.l,dx (fun j a=>m j (io a))];simp[n]
 ·rw[cg,hZ,d];simp;omega
 ·rw[cg,e,RU,pd (QQ _),Sg,g,Rk,dx (fun j a=>m j (io (RG.1 a).1))]
  simp only[QZ,Ro,Rr]at r
  by_cases c:i<o.length
  ·rw[Q6 c];exact h.o i c
  ·have t:i=o.length:=by omega
   rw[t,Q4 (QQ _),RV,rs (QQ _) (by omega),<-h.l];rfl
theorem rT.pop(h:rT M f k (o++[d]))(s:Sm)(g:∀p,aO p s.k=p-1)(n:∀j,j<f.length->z0 j=M j):rT z0 (f++[s]) (k.take d) o:=by
 have e:=rh f s;rw[g,g,QS (by omega),Rk]at e;have t:=h.b;simp only[QZ,Ro,Rr]at t;have r:bb f f.length-1=(o.length:Int):=by omega
 rw[r]at e;have c:=h.o o.length (by simp);rw[Q4 (QQ _),RV]at c;have c:d=(((j8 f f.length).filter (fun j=>decide (bb f j<=(o.length:Int)))).flatMap M).length:=by simpa using c
 refine⟨?_,?_,fun i w=>?_⟩
 ·rw[cg,e,dx (G:=M) (fun j a=>n j (io (RG.1 a).1))]
  have q:=h.l;rw[Fg (f:=bb f) (o.length:Int) (j8 f f.length) (DB f _ (QQ _)),Sg]at q;rw[q,c,Sn (QQ _),RI]
 ·rw[cg,hZ,g];omega
 ·rw[cg,e,UF]
  have v:(j8 f f.length).filter (fun j=>decide (bb (f++[s]) j<=(i:Int))&&decide (bb f j<=(o.length:Int)))=(j8 f f.length).filter (fun j=>decide (bb f j<=(i:Int))) :=
   Ui (fun j a=>by
    rw[lm f [s] j (by have:=io a;omega)]
    by_cases m:bb f j<=(i:Int)
    ·have u:bb f j<=(o.length:Int):=by omega
     simp[m,u]
    ·simp[m])
  rw[v,dx (G:=M) (fun j a=>n j (io (RG.1 a).1))];have:=h.o i (by simp;omega);rw[Q6 w]at this;exact this
def Di(T:List Tk)(S:List Sm)(j:Nat):List ByteArray:=if((au S j).k.toList == [36,118])=true then bu T (au S j).h else []
def Hj(T:List Tk)(S:List Sm)(j:Nat):List ByteArray:=if((au S j).k.toList == [36,99])=true then bu T (au S j).h else []
def Ge(T:List Tk)(S:List Sm)(j:Nat):List ByteArray:=if((au S j).k.toList == [36,102])=true then [tS T ((au S j).h+1)] else []
def LC(T:List Tk)(S:List Sm)(j:Nat):List ByteArray:=if((bG T (au S j)).toList == [])=true then [] else [bG T (au S j)]
theorem nN(F:Nat->List ByteArray)(l:List Nat)(x:ByteArray):aJ (l.flatMap F) x=l.any (fun j=>aJ (F j) x):=by
 unfold aJ;rw[List.any_flatMap]
theorem iJ:aJ [] w=false:=rfl
theorem wl(m:List ByteArray)(x:ByteArray):aJ (a++m) x=(aJ a x||aJ m x):=by
 unfold aJ;rw[UV]
theorem rt:aJ [H] w=(H.toList==w.toList):=by simp[aJ]
theorem ux(q:Nat->Bool):(g.filter z2).any q=g.any (fun j=>z2 j&&q j):=by
 rw[List.any_filter]
theorem GQ:kV l n w b=aJ ((j8 n b).flatMap (Di l n)) w:=by
 rw[nN];unfold j8;rw[ux];unfold kV jq;refine lk (fun j a=>?_);unfold pF Di;rw[nQ.2]
 cases h:((au n j).k.toList == [36,118])
 ·rw[QS (by simp),iJ];simp
 ·rw[QV rfl];simp[U4]
theorem tN:eF l n w b=aJ ((List.range b).flatMap (Hj l n)) w:=by
 rw[nN];unfold eF jq;refine lk (fun j a=>?_);unfold pF Hj;rw[nQ.1]
 cases h:((au n j).k.toList == [36,99])
 ·rw[QS (by simp),iJ];simp
 ·rw[QV rfl];simp
theorem DE:jq l n ⟨#[36,118]⟩ w b false=aJ ((List.range b).flatMap (Di l n)) w:=by
 rw[nN];unfold jq;refine lk (fun j a=>?_);unfold pF Di;rw[nQ.2]
 cases h:((au n j).k.toList == [36,118])
 ·rw[QS (by simp),iJ];simp
 ·rw[QV rfl];simp
theorem Nr:(match g.find? z2 with | some j=>(j:Int) | none=>-1)=-1 ↔ g.any z2=false:=by
 cases h:g.find? z2 with
 | none=>simp only[true_iff];rw[TG];rw[Sj]at h;exact h
 | some j =>
  have c:=Tl h;have a:=Ry h;have b:g.any z2=true:=RB.2 ⟨j,a,c⟩;rw[b];simp only[UG,iff_false];intro d;have:(0:Int)<=(j:Int):=by omega
  omega
theorem Gj:decide (0<=(match g.find? z2 with | some j=>(j:Int) | none=>-1))=g.any z2:=by
 cases h:g.find? z2 with
 | none =>
  have:=(Nr g z2).1 (by rw[h]);rw[this];rfl
 | some j =>
  have a:g.any z2=true:=RB.2 ⟨j,Ry h,Tl h⟩;rw[a];simp
theorem sP:decide (0<=bE l n w b)=aJ ((List.range b).flatMap (LC l n)) w:=by
 rw[nN];unfold bE;refine(Gj (List.range b) (qK l n w)).trans ?_;refine lk (fun j a=>?_);unfold qK LC
 cases h:((bG l (au n j)).toList == [])
 ·rw[QS (by simp),rt];simp
 ·rw[QV rfl,iJ];simp
theorem Ik:decide (0<=gg l n w b)=aJ ((j8 n b).flatMap (Ge l n)) w:=by
 rw[nN];unfold j8;rw[ux];unfold gg;refine(Gj (List.range b) (tU l n w b)).trans ?_;refine lk (fun j a=>?_);unfold tU Ge
 cases h:((au n j).k.toList == [36,102])
 ·rw[QS (by simp),iJ];simp
 ·rw[QV rfl,rt];simp[U4]
theorem Am(d:l.length<=100000)(b:∀j,j<l.length->bh l (aj l) j=0):il l (aj l) (aj l).length/\l6 l (aj l) (aj l).length:=by
 have p:=fw l;have f:(aj l).length<=l.length:=oF l l.length;generalize aj l=S at *;have c:=fun j (a:j<S.length)=>Do p j a (fun q _ e=>b q (by have:=(p.s j a).2;omega))
 refine⟨⟨QQ _,by omega,d,fun j a=>(c j a).1,fun j a=>(c j a).2.1,fun j a=>?_⟩,fun j a=>(c j a).2.2⟩;have:=(p.s j a).1.lt;have:=(p.s j a).2;omega
structure rQ(T:List Tk)(S:List Sm)(d:Db):Prop where
 con:d.U7=(List.range S.length).flatMap (Hj T S)
 var:∀x,aJ d.U8 x=aJ ((List.range S.length).flatMap (Di T S)) x
 act:rT (Di T S) S d.Ve (d.blocks.map (·.1))
 typ:rT (Ge T S) S d.typed (d.blocks.map (·.2))
def jH(T:List Tk)(S:List Sm):List ByteArray:=(List.range S.length).flatMap (LC T S)
def eZ(l:List UInt8)(k:Int):Prop:=(l=[36,99]/\k=7)∨(l=[36,118]/\k=8)∨(l=[36,100]/\k=1)∨(l=[36,102]/\k=2)∨(l=[36,101]/\k=3)∨(l=[36,97]/\k=4)∨(l=[36,112]/\k=5)
theorem eZ.c:eZ [36,99] 7:=by simp[eZ]
theorem eZ.v:eZ [36,118] 8:=by simp[eZ]
theorem eZ.d:eZ [36,100] 1:=by simp[eZ]
theorem eZ.f:eZ [36,102] 2:=by simp[eZ]
theorem eZ.e:eZ [36,101] 3:=by simp[eZ]
theorem eZ.a:eZ [36,97] 4:=by simp[eZ]
theorem eZ.p:eZ [36,112] 5:=by simp[eZ]
def kz(y:ByteArray):Bool:=!(y.toList == [36,61])
def tE(T:List Tk)(d:Db):Prop :=
 (fA T=T.length/\d.kind=0/\d.U5=[]/\d.U9=false/\d.Vd=jH T (aj T)) ∨
 (fA T+1=T.length/\d.kind=6/\d.U5=[]/\d.U9=false/\d.Vd=jH T (aj T)++[tS T (fA T)]/\((tS T (fA T)).toList == [])=false/\ii (tS T (fA T)) ⟨#[36]⟩=false) ∨
 ∃(key:ByteArray) (head:Nat) (B:List ByteArray),ew T (fA T)=(key,head)/\fA T<head/\head<=T.length/\eZ key.toList d.kind/\fa T head T.length=B/\d.U9=aJ B ⟨#[36,61]⟩/\d.U5=B.takeWhile kz/\(d.U9=true->d.kind=5/\d.U5≠[]) /\
  d.Vd=jH T (aj T)++(if(aC key||aG key)=true then [tS T (fA T)] else [])/\((aC key||aG key)=true->((tS T (fA T)).toList == [])=false)
theorem tE.none(d:fA S=S.length)(a:y.kind=0)(c:y.U5=[])(e:y.U9=false)(b:y.Vd=jH S (aj S)):tE S y:=Q0 ⟨d,a,c,e,b⟩
theorem tE.lab(f:fA S+1=S.length)(b:y.kind=6)(e:y.U5=[])(g:y.U9=false)(c:y.Vd=jH S (aj S)++[tS S (fA S)])(a:((tS S (fA S)).toList == [])=false)(d:ii (tS S (fA S)) ⟨#[36]⟩=false):tE S y:=QU (Q0 ⟨f,b,e,g,c,a,d⟩)
theorem tE.body(g:ew S (fA S)=(H,T))(d:fA S<T)(i:T<=S.length)(k:eZ H.toList y.kind)(j:fa S T S.length=a)(c:y.U9=aJ a ⟨#[36,61]⟩)(h:y.U5=a.takeWhile kz)(f:y.U9=true->y.kind=5/\y.U5≠[])(e:y.Vd=jH S (aj S)++(if(aC H||aG H)=true then [tS S (fA S)] else []))(b:(aC H||aG H)=true->((tS S (fA S)).toList == [])=false):tE S y:=QU (QU ⟨H,T,a,g,d,i,k,j,c,h,f,e,b⟩)
theorem rT.congr(h:rT M f k o)(c:∀j,j<f.length->z0 j=M j):rT z0 f k o :=
 ⟨by rw[dx (G:=M) (fun j a=>c j (io a))];exact h.l,h.b,fun i d=>by rw[dx (G:=M) (fun j a=>c j (io (RG.1 a).1))];exact h.o i d⟩
section
variable {T U:List Tk} {S M:List Sm}
theorem oY(b:il T S S.length)(j:Nat)(a:j<S.length):Di (T++U) (S++M) j=Di T S j:=by
 unfold Di;rw[jL S M j a]
 split
 ·next h=>rw[se T U _ (b.v j a h)]
 ·rfl
theorem vk(b:il T S S.length)(j:Nat)(a:j<S.length):Hj (T++U) (S++M) j=Hj T S j:=by
 unfold Hj;rw[jL S M j a]
 split
 ·next h=>rw[se T U _ (b.c j a h)]
 ·rfl
theorem vl(b:l6 T S S.length)(j:Nat)(a:j<S.length):Ge (T++U) (S++M) j=Ge T S j:=by
 unfold Ge;rw[jL S M j a]
 split
 ·next h=>rw[fI T U _ (b j a h)]
 ·rfl
theorem Gq(c:il T S S.length)(j:Nat)(b:j<S.length):LC (T++U) (S++M) j=LC T S j:=by
 unfold LC;rw[jL S M j b,yI _ (c.a j b)]
end
theorem oK(h:∀j,j<d->z0 j=M j):(List.range d).flatMap z0=(List.range d).flatMap M:=dx (fun j a=>h j (Q9.1 a))
theorem fe(h:∀j,j<d->z0 j=M j):(List.range (d+1)).flatMap z0=(List.range d).flatMap M++z0 d:=by
 rw[R4,Sg,oK h];simp
theorem qm(b:il S f f.length):jH (S++N) f=jH S f:=by
 unfold jH;exact oK (fun j a=>by have:=Gq (U:=N) (M:=[]) b j a;rw[Rk]at this;exact this)
theorem tY(b:il S f f.length):jH (S++N) (f++[i])=jH S f++LC (S++N) (f++[i]) f.length:=by
 unfold jH;rw[cg];exact fe (fun j a=>Gq b j a)
theorem rQ.same(h:rQ S f y)(d:il S f f.length)(i:l6 S f f.length)(l:z4.U7=y.U7)(n:z4.U8=y.U8)(k:z4.Ve=y.Ve)(g:z4.typed=y.typed)(b:z4.blocks=y.blocks):rQ (S++N) f z4:=by
 have c:∀j,j<f.length->Di (S++N) f j=Di S f j:=fun j a=>by have:=oY (U:=N) (M:=[]) d j a;rw[Rk]at this;exact this
 have e:∀j,j<f.length->Hj (S++N) f j=Hj S f j:=fun j a=>by have:=vk (U:=N) (M:=[]) d j a;rw[Rk]at this;exact this
 have m:∀j,j<f.length->Ge (S++N) f j=Ge S f j:=fun j a=>by have:=vl (U:=N) (M:=[]) i j a;rw[Rk]at this;exact this
 exact⟨by rw[l,oK e];exact h.con,fun x=>by rw[n,oK c];exact h.var x,by rw[k,b];exact h.act.congr c,by rw[g,b];exact h.typ.congr m⟩
theorem lW:au (n++[i]) n.length=i:=uj n i
theorem rQ.close(h:rQ S f y)(b:il S f f.length)(g:l6 S f f.length)(s:Sm)(d:∀o,aO o s.k=o)(l:z4.U7=y.U7++Hj (S++N) (f++[s]) f.length)(m:∀x,aJ z4.U8 x=(aJ y.U8 x||aJ (Di (S++N) (f++[s]) f.length) x))(i:z4.Ve=y.Ve++Di (S++N) (f++[s]) f.length)(e:z4.typed=y.typed++Ge (S++N) (f++[s]) f.length)(c:z4.blocks=y.blocks):rQ (S++N) (f++[s]) z4 :=
 ⟨by rw[cg,fe (fun j a=>vk b j a),<-h.con];exact l,fun x=>by rw[cg,fe (fun j a=>oY b j a),wl,<-h.var];exact m x,
  by rw[i,c];exact h.act.norm s d (fun j a=>oY b j a),by rw[e,c];exact h.typ.norm s d (fun j a=>vl g j a)⟩
theorem Bi(k:l.length<=100000)(a:∀j,j<l.length->bh l (aj l) j=0):bh (l++[L]) (aj (l++[L])) l.length =
  if l.length=fA l then dw l (aj l) L.s (aj l).length
  else if l.length<(ew (l++[L]) (fA l)).2 then(if(aC L.s||aG L.s)=true then 0 else 14)
  else lV l (aj l) (ew (l++[L]) (fA l)).1 L.s (aj l).length (fa l (ew (l++[L]) (fA l)).2 l.length):=by
 obtain⟨c,h⟩:=Am l k a;obtain⟨M,i,g⟩:=zj l [L];have p:=fw l;rw[i,EJ];generalize aj l=S at *
 have f:i8 (S++M) l.length=S.length:=by
  unfold i8;rw[F3 l.length S M g];exact KT _ S S.length (fun q d=>⟨au S q,GL S q d,(p.s q d).2⟩) (fun s b=>by rw[Rv (QQ _)]at b;cases b)
 unfold bh;rw[f,Bd S M _ (QQ _),oU]
 by_cases e:l.length=kt S S.length
 ·rw[QV e,QV e,yx _ c]
 ·rw[QS e,QS e]
  split
  ·rfl
  ·next m=>rw[CP _ _ _ c h,FY l [L] _ _ (by omega) (QQ _)]
theorem Dc(h:rQ S f y)(a:y.Vd=jH S f)(x:ByteArray):jC S f x f.length=dK y x:=by
 unfold jC dK;rw[sP,tN,DE,<-h.con,<-h.var,a,TE];rfl
theorem JY(h:rQ S f y)(a:y.Vd=jH S f)(x:ByteArray):(decide (0<=bE S f x f.length)||(eF S f x f.length||kV S f x f.length))=dX y x:=by
 unfold dX;rw[sP,tN,GQ,<-h.con,<-h.act.l,a,TE];rfl
theorem Bt(h:rQ S f y):bb f f.length=(y.blocks.length:Int):=by
 have:=h.act.b;rw[Rh]at this;exact this.symm
theorem rm(h:x.toList=D)(o:Int):aO o x=if(D == [36,125])=true then(if(D == [36,123])=true then o+1 else o)-1 else(if(D == [36,123])=true then o+1 else o):=by
 unfold aO;rw[h]
theorem ka{k:ByteArray}(h:k.toList=D):aC k=((D == [36,97])||(D == [36,112]))/\aG k=((D == [36,102])||(D == [36,101]))/\bS k=((D == [36,46])||(D == [36,123])||(D == [36,125])):=by
 unfold aC aG bS;rw[h];exact⟨rfl,rfl,rfl⟩
theorem Fk(h:x.toList=D):ii x ⟨#[36]⟩=ii ⟨D.toArray⟩ ⟨#[36]⟩:=by
 rw[oC (x:=x) (l:=D) (by rw[h];simp)]
theorem eZ.dep(h:eZ x.toList z3):(∀o,aO o x=o)/\ii x ⟨#[36]⟩=true/\bS x=false:=by
 generalize hl:x.toList=l at h;have c:=fun o=>rm hl o
 have a:=Fk hl;have b:=(ka hl).2.2
 (rcases h with ⟨rfl,rfl⟩ | ⟨rfl,rfl⟩ | ⟨rfl,rfl⟩ | ⟨rfl,rfl⟩ | ⟨rfl,rfl⟩ | ⟨rfl,rfl⟩ | ⟨rfl,rfl⟩) <;> exact⟨fun o=>c o,a.trans (by decide +kernel),b⟩
section
variable {T:List Tk} {t:Tk} {d:Db}
theorem Cw(b:fA T=T.length)(a:ii t.s ⟨#[36]⟩=true):ew (T++[t]) (fA T)=(t.s,T.length+1):=by
 unfold ew;rw[b,oU,a];simp
theorem sN(b:ew T (fA T)=(x,d))(c:fA T<d)(i:d<=T.length)(g:eZ x.toList z3):ew (T++[t]) (fA T)=(x,d):=by
 rw[<-b]
 by_cases h:fA T+1<T.length
 ·exact Ac T [t] _ h
 ·have e:ew T (fA T)=(tS T (fA T),fA T+1):=by
   unfold ew;rw[QV (by simp;right;omega)]
  rw[b]at e;have f:x=tS T (fA T):=congrArg Prod.fst e;have a:=g.dep.2.1;rw[f]at a;unfold ew;rw[fI T [t] _ (by omega),a];simp
theorem mZ:fa l b l.length=(l.drop b).map (·.s):=by
 unfold fa;rw[Ts (by rw[RQ];exact QQ _)]
theorem KI(a:b<=T.length):fa (T++[L]) b (T++[L]).length=fa T b T.length++[L.s]:=by
 rw[mZ,mZ,Sf a];simp
theorem vN(c:∀u∈l,(u.s.toList == [36,46])=false)(d:(L.s.toList == [36,46])=true):kc (l++[L])=(l.map (·.s)).takeWhile kz:=by
 induction l with
 | nil=>rw[Ut,kc,QV (tw d)];rfl
 | cons a l e =>
  have g:=c a (by simp);rw[Th,kc,To]
  cases b:(a.s.toList == [36,61])
  ·rw[QS (by unfold mL;rw[g,b];simp),SM (by unfold kz;rw[b];rfl),e (fun u f=>c u (by simp[f]))]
  ·rw[QV (by unfold mL;rw[b];rfl),Tj (by unfold kz;rw[b];simp)]
theorem yS(a:fA l<=b):∀u∈l.drop b,bS u.s=false:=by
 intro u d;obtain⟨q,c,e⟩:=RZ d;rw[RQ]at c;have:=(fw l).n (b+q) (by unfold fA at a;omega) (by omega);rw[TH]at e;unfold tS at this;rw[QP,QO (by omega)]at this;rw[<-e];exact this
theorem Lm(h:aJ a ⟨#[36,61]⟩=false):∀y∈a,kz y=true:=by
 intro y b;unfold aJ at h;rw[TG]at h;have:=h y b;have e:(⟨#[36,61]⟩:ByteArray).toList=[36,61]:=by decide +kernel
 rw[e]at this;unfold kz;simpa using this
theorem J8(h:∀y∈a,kz y=true):a.takeWhile kz=a:=by
 induction a with
 | nil=>rfl
 | cons c a d=>rw[SM (h c (by simp)),d (fun y b=>h y (by simp[b]))]
theorem vo(h:aJ a ⟨#[36,61]⟩=false):a.takeWhile kz=a:=J8 a (Lm a h)
theorem MD(h:aJ a ⟨#[36,61]⟩=true):(a++[w]).takeWhile kz=a.takeWhile kz:=by
 have e:(⟨#[36,61]⟩:ByteArray).toList=[36,61]:=by decide +kernel
 induction a with
 | nil=>cases h
 | cons c a d =>
  rw[Th]
  cases b:(c.toList == [36,61])
  ·have f:aJ a ⟨#[36,61]⟩=true:=by
    unfold aJ at h ⊢;rw[TA,e,b,So]at h;rw[e];exact h
   rw[SM (by unfold kz;rw[b];rfl),SM (by unfold kz;rw[b];rfl),d f]
  ·rw[Tj (by unfold kz;rw[b];simp),Tj (by unfold kz;rw[b];simp)]
end
theorem ci{m:List UInt8}(h:(x.toList==D)=true):(x.toList==m)=(D==m):=by
 have:x.toList=D:=by simpa using h
 rw[this]
theorem dd(h:(x.toList==D)=true):x.toList=D:=by simpa using h
section
variable {T:List Tk} {t:Tk} {d:Db}
theorem qn(d:fA T=T.length)(c:bS t.s=true):aj (T++[t])=aj T++[⟨fA T,T.length+1,T.length+1,t.s⟩]/\fA (T++[t])=(T++[t]).length:=by
 obtain⟨a,b⟩:=oQ T t;rw[QV c,Cw d (kL c).1]at a;rw[QV c]at b;exact⟨a,by rw[b];simp⟩
theorem mE(c:bS t.s=false):aj (T++[t])=aj T/\fA (T++[t])=fA T:=by
 obtain⟨a,b⟩:=oQ T t;rw[QS (by rw[c];simp)]at a b;exact⟨a,b⟩
theorem OE{S:List Sm}{s:Sm}{U:List Tk}(b:(s.k.toList == [36,118])=false)(c:(s.k.toList == [36,99])=false)(a:(s.k.toList == [36,102])=false):Di U (S++[s]) S.length=[]/\Hj U (S++[s]) S.length=[]/\Ge U (S++[s]) S.length=[]:=by
 unfold Di Hj Ge;rw[lW,b,c,a];exact⟨rfl,rfl,rfl⟩
theorem En{S:List Sm}{s:Sm}{U:List Tk}(h:(aC s.k||aG s.k)=false):LC U (S++[s]) S.length=[]:=by
 have e:bG U s=⟨#[]⟩:=by unfold bG;rw[h,QS (by simp)]
 unfold LC;rw[lW,e,QV oG]
theorem ND(h:(aC z5.k||aG z5.k)=true)(b:((tS S z5.a).toList == [])=false):LC S (f++[z5]) f.length=[tS S z5.a]:=by
 have e:bG S z5=tS S z5.a:=by unfold bG;rw[h,QV rfl]
 unfold LC;rw[lW,e,QS (by rw[b];simp)]
theorem Fj(w:il T (aj T) (aj T).length)(V:l6 T (aj T) (aj T).length)(I:rQ T (aj T) d)(O:fA T=T.length)(hk:d.kind=0)(F:d.U5=[])(z:d.U9=false)(K:d.Vd=jH T (aj T))(hx:(t.s.toList == [])=false) :
  dw T (aj T) t.s (aj T).length=(av d t.s).1/\((av d t.s).1=0->rQ (T++[t]) (aj (T++[t])) (av d t.s).2/\tE (T++[t]) (av d t.s).2):=by
 have E:=Bt I;have ad:=Dc I K t.s
 -- a keyword of a statement without a Z
 have H:∀{n:Int} {X:Db},eZ t.s.toList n->(aC t.s||aG t.s)=false->X={ d with kind:=n }->rQ (T++[t]) (aj (T++[t])) X/\tE (T++[t]) X:=fun {n X} u J e=>by
  obtain⟨C,G⟩:=mE (T:=T) (t:=t) u.dep.2.2;have Q:ew (T++[t]) (fA (T++[t]))=(t.s,T.length+1):=by rw[G];exact Cw O u.dep.2.1
  have hB:fa (T++[t]) (T.length+1) (T++[t]).length=[]:=by rw[mZ];simp
  subst e;refine⟨by rw[C];exact I.same w V rfl rfl rfl rfl rfl,tE.body t.s (T.length+1) [] Q (by rw[G];omega) (by simp) u hB (by rw[iJ];exact z) F (fun h=>by rw[z]at h;cases h) ?_ (fun h=>by rw[J]at h;cases h)⟩;rw[C,J,QS (by simp),Rk,qm w];exact K
 cases b:(t.s.toList == [36,123])
 ·cases f:(t.s.toList == [36,125])
  ·cases m:(t.s.toList == [36,99])
   ·cases g:(t.s.toList == [36,118])
    ·cases l:(t.s.toList == [36,100])
     ·cases y:(aC t.s||aG t.s)
      ·have h7:(t.s.toList == [36,102])=false/\(t.s.toList == [36,101])=false/\(t.s.toList == [36,97])=false/\(t.s.toList == [36,112])=false:=by
        unfold aC aG at y;simp only[R0]at y;exact⟨y.2.1,y.2.2,y.1.1,y.1.2⟩
       obtain⟨g1,g2,g3,g4⟩:=h7
       have k:av d t.s=bI d t.s:=by
        unfold av;rw[b,f,m,g,l,g1,g2,g3,g4];simp
       have i:dw T (aj T) t.s (aj T).length=if ii t.s ⟨#[36]⟩=true then 8 else if gG t.s=false then 12 else if dK d t.s=true then 13 else 0:=by
        unfold dw;rw[b,f,m,g,l,y,ad];simp
       rw[k,i,ia];unfold bI
       cases k1:dA t.s
       ·cases k2:gG t.s
        ·exact⟨rfl,fun h=>by simp at h⟩
        ·cases k3:dK d t.s
         ·refine⟨rfl,fun _=>?_⟩
          have B:bS t.s=false:=by
           cases M:bS t.s
           ·rfl
           ·have:=(kL M).1
            rw[ia,k1]at this;cases this
          obtain⟨C,G⟩:=mE (T:=T) (t:=t) B;have e3:tS (T++[t]) (fA (T++[t]))=t.s:=by rw[G,O,oU]
          simp only[Rs,Sq];exact⟨by rw[C];exact I.same w V rfl rfl rfl rfl rfl,tE.lab (by rw[G,O];simp) rfl F z (by rw[e3,C,qm w,<-K];rfl) (by rw[e3];exact hx) (by rw[e3,ia];exact k1)⟩
         ·exact⟨rfl,fun h=>by simp at h⟩
       ·exact⟨rfl,fun h=>by simp at h⟩
      ·have k:av d t.s=(11,d):=by
        unfold av;rw[b,f,m,g,l];unfold aC aG at y;rw[QS (by simp),QS (by simp),QS (by simp),QS (by simp),QS (by simp),QV];simp only[Rz]at y
        rcases y with (h | h) | (h | h)
        ·exact QU (QU (Q0 h))
        ·exact QU (QU (QU h))
        ·exact Q0 h
        ·exact QU (Q0 h)
       have i:dw T (aj T) t.s (aj T).length=11:=by
        unfold dw;rw[b,f,m,g,l,y];simp
       rw[k,i];exact⟨rfl,fun h=>by cases h⟩
     ·have u:=eZ.d
      rw[<-dd l]at u
      have k:av d t.s=(0,{ d with kind:=1 }):=by
       unfold av;rw[b,f,m,g,l];simp
      have i:dw T (aj T) t.s (aj T).length=0:=by
       unfold dw;rw[l];simp
      rw[k,i];exact⟨rfl,fun _=>H u (by rw[(ka (dd l)).1,(ka (dd l)).2.1];decide) rfl⟩
    ·have u:=eZ.v
     rw[<-dd g]at u
     have k:av d t.s=(0,{ d with kind:=8 }):=by
      unfold av;rw[b,f,m,g];simp
     have i:dw T (aj T) t.s (aj T).length=0:=by
      unfold dw;rw[g];simp
     rw[k,i];exact⟨rfl,fun _=>H u (by rw[(ka (dd g)).1,(ka (dd g)).2.1];decide) rfl⟩
   ·have u:=eZ.c
    rw[<-dd m]at u;have g:(t.s.toList == [36,118])=false:=by rw[ci m];decide
    have l:(t.s.toList == [36,100])=false:=by rw[ci m];decide
    by_cases D:0<d.blocks.length
    ·have k:av d t.s=(10,d):=by
      unfold av;rw[b,f,m];simp[D]
     have i:dw T (aj T) t.s (aj T).length=10:=by
      unfold dw;rw[b,f,m,g,l,E,SL (show(0:Int)<(d.blocks.length:Int) by omega)];simp
     rw[k,i];exact⟨rfl,fun h=>by cases h⟩
    ·have k:av d t.s=(0,{ d with kind:=7 }):=by
      unfold av;rw[b,f,m,QS (by simp),QS (by simp),QV rfl,QS D]
     have i:dw T (aj T) t.s (aj T).length=0:=by
      unfold dw;rw[b,f,m,g,l,E,Sa (show ¬(0:Int)<(d.blocks.length:Int) by omega)];simp
     rw[k,i];exact⟨rfl,fun _=>H u (by rw[(ka (dd m)).1,(ka (dd m)).2.1];decide) rfl⟩
  ·have g:(t.s.toList == [36,118])=false:=by rw[ci f];decide
   have l:(t.s.toList == [36,100])=false:=by rw[ci f];decide
   have M:bS t.s=true:=by rw[(ka (dd f)).2.2];decide
   have k:av d t.s=(match d.blocks.getLast? with | none=>(9,d) | some p=>(0,cw d p)):=by
    unfold av;rw[b,f,QS (by simp),QV rfl];rfl
   cases D:d.blocks.getLast? with
   | none =>
    have L:d.blocks.length=0:=by rw[List.getLast?_eq_none_iff]at D;rw[D];rfl
    have i:dw T (aj T) t.s (aj T).length=9:=by
     unfold dw;rw[b,f,g,l,E,L];simp
    rw[k,i,D];exact⟨rfl,fun h=>by cases h⟩
   | some q =>
    have B:d.blocks≠[]:=fun e=>by rw[e]at D;cases D
    have ac:d.blocks=d.blocks.dropLast++[q]:=by
     have:=Uu B;rw[SZ B]at D
     cases D
     exact this.symm
    have L:0<d.blocks.length:=TT.2 B
    have i:dw T (aj T) t.s (aj T).length=0:=by
     unfold dw;rw[b,f,g,l,E,show((d.blocks.length:Int)==0)=false by simp;omega];simp
    rw[k,i,D];refine⟨rfl,fun _=>?_⟩;obtain⟨C,G⟩:=qn (T:=T) (t:=t) O M;have P:∀o,aO o t.s=o-1:=fun o=>by rw[rm (dd f)];rfl
    obtain⟨W,n2,n3⟩:=OE (S:=aj T) (s:=⟨fA T,T.length+1,T.length+1,t.s⟩) (U:=T++[t]) g (by show(t.s.toList==_)=false;rw[ci f];decide) (by show(t.s.toList==_)=false;rw[ci f];decide);have Y:=En (S:=aj T) (s:=⟨fA T,T.length+1,T.length+1,t.s⟩) (U:=T++[t]) (by show(aC t.s||aG t.s)=false;rw[(ka (dd f)).1,(ka (dd f)).2.1];decide);have J:=I.act;have hy:=I.typ;rw[ac,Rx]at J hy
    have N:(cw d q).U7=d.U7/\(cw d q).U8=d.U8/\(cw d q).Ve=d.Ve.take q.1/\(cw d q).typed=d.typed.take q.2/\(cw d q).blocks=d.blocks.dropLast/\(cw d q).kind=d.kind/\(cw d q).U5=d.U5/\(cw d q).U9=d.U9/\(cw d q).Vd=d.Vd:=by
     unfold cw dq
     split <;> exact⟨rfl,rfl,rfl,rfl,rfl,rfl,rfl,rfl,rfl⟩
    obtain⟨d1,d2,d3,d4,d5,d6,d7,d8,d9⟩:=N;simp only;rw[C];refine⟨⟨?_,fun x=>?_,?_,?_⟩,tE.none G (by rw[d6];exact hk) (by rw[d7];exact F) (by rw[d8];exact z) ?_⟩
    ·rw[d1,cg,fe (fun j r=>vk w j r),n2,Rk];exact I.con
    ·rw[d2,cg,fe (fun j r=>oY w j r),W,Rk];exact I.var x
    ·rw[d3,d5];exact J.pop ⟨fA T,T.length+1,T.length+1,t.s⟩ P (fun j r=>oY w j r)
    ·rw[d4,d5];exact hy.pop ⟨fA T,T.length+1,T.length+1,t.s⟩ P (fun j r=>vl V j r)
    ·rw[d9,C,tY _ w,Y,Rk];exact K
 ·have g:(t.s.toList == [36,118])=false:=by rw[ci b];decide
  have M:bS t.s=true:=by rw[(ka (dd b)).2.2];decide
  have k:av d t.s=(0,{ d with blocks:=d.blocks++[(d.Ve.length,d.typed.length)],rbl:=d.rbl++[d.sts.length] }):=by
   unfold av;rw[b,QV rfl]
  have i:dw T (aj T) t.s (aj T).length=0:=by
   unfold dw;rw[b];simp
  rw[k,i];refine⟨rfl,fun _=>?_⟩;obtain⟨C,G⟩:=qn (T:=T) (t:=t) O M;have P:∀o,aO o t.s=o+1:=fun o=>by rw[rm (dd b)];rfl
  obtain⟨W,n2,n3⟩:=OE (S:=aj T) (s:=⟨fA T,T.length+1,T.length+1,t.s⟩) (U:=T++[t]) g (by show(t.s.toList==_)=false;rw[ci b];decide) (by show(t.s.toList==_)=false;rw[ci b];decide);have Y:=En (S:=aj T) (s:=⟨fA T,T.length+1,T.length+1,t.s⟩) (U:=T++[t]) (by show(aC t.s||aG t.s)=false;rw[(ka (dd b)).1,(ka (dd b)).2.1];decide);simp only;rw[C];refine⟨⟨?_,fun x=>?_,?_,?_⟩,tE.none G hk F z ?_⟩
  ·rw[cg,fe (fun j r=>vk w j r),n2,Rk];exact I.con
  ·rw[cg,fe (fun j r=>oY w j r),W,Rk];exact I.var x
  ·simp only[Rx,To,Uz]
   exact I.act.push ⟨fA T,T.length+1,T.length+1,t.s⟩ P (fun j r=>oY w j r) W
  ·simp only[Rx,To,Uz]
   exact I.typ.push ⟨fA T,T.length+1,T.length+1,t.s⟩ P (fun j r=>vl V j r) n3
  ·rw[C,tY _ w,Y,Rk];exact K
theorem Mu(z:il T (aj T) (aj T).length)(C:l6 T (aj T) (aj T).length)(I:rQ T (aj T) d)(x:fA T+1=T.length)(q:d.U5=[])(k:d.U9=false)(A:d.Vd=jH T (aj T)++[tS T (fA T)])(D:((tS T (fA T)).toList == [])=false)(u:ii (tS T (fA T)) ⟨#[36]⟩=false) :
  ew (T++[t]) (fA T)=(t.s,T.length+1)/\(if(aC t.s||aG t.s)=true then(0:Int) else 14)=(aH d t.s).1/\((aH d t.s).1=0->rQ (T++[t]) (aj (T++[t])) (aH d t.s).2/\tE (T++[t]) (aH d t.s).2):=by
 have j:ew (T++[t]) (fA T)=(t.s,T.length+1):=by
  unfold ew;rw[fI T [t] _ (by omega),u,QS (by simp;omega),x,oU,<-x]
 have g:∀{n:Int},eZ t.s.toList n->(aC t.s||aG t.s)=true->rQ (T++[t]) (aj (T++[t])) { d with kind:=n }/\tE (T++[t]) { d with kind:=n }:=fun {n} c b=>by
  obtain⟨w,r⟩:=mE (T:=T) (t:=t) c.dep.2.2;have B:fa (T++[t]) (T.length+1) (T++[t]).length=[]:=by rw[mZ];simp
  have y:tS (T++[t]) (fA (T++[t]))=tS T (fA T):=by rw[r,fI T [t] _ (by omega)]
  refine⟨by rw[w];exact I.same z C rfl rfl rfl rfl rfl,tE.body t.s (T.length+1) [] (by rw[r];exact j) (by rw[r];omega) (by simp) c B (by rw[iJ];exact k) q (fun h=>by rw[show({ d with kind:=n }:Db).U9=d.U9 from rfl,k]at h;cases h) ?_ (fun _=>by rw[y];exact D)⟩;rw[w,b,QV rfl,qm z,y];exact A
 refine⟨j,?_⟩;unfold aH
 cases l:(t.s.toList == [36,102])
 ·cases m:(t.s.toList == [36,101])
  ·cases o:(t.s.toList == [36,97])
   ·cases v:(t.s.toList == [36,112])
    ·have b:(aC t.s||aG t.s)=false:=by unfold aC aG;rw[l,m,o,v];rfl
     rw[b];exact⟨rfl,fun h=>by simp at h⟩
    ·have b:(aC t.s||aG t.s)=true:=by unfold aC aG;rw[v];simp
     have c:=eZ.p;rw[<-dd v]at c;rw[b];exact⟨rfl,fun _=>g c b⟩
   ·have b:(aC t.s||aG t.s)=true:=by unfold aC aG;rw[o];simp
    have c:=eZ.a;rw[<-dd o]at c;rw[b];exact⟨rfl,fun _=>g c b⟩
  ·have b:(aC t.s||aG t.s)=true:=by unfold aC aG;rw[m];simp
   have c:=eZ.e;rw[<-dd m]at c;rw[b];exact⟨rfl,fun _=>g c b⟩
 ·have b:(aC t.s||aG t.s)=true:=by unfold aC aG;rw[l];simp
  have c:=eZ.f;rw[<-dd l]at c;rw[b];exact⟨rfl,fun _=>g c b⟩
end
theorem BO:∀v x,aJ (dR v a) x=(aJ v x||aJ a x):=by
 induction a with
 | nil=>intro v x;rw[iJ,Sy];rfl
 | cons b a d =>
  intro v x;have e:dR v (b :: a)=dR (if aJ v b=true then v else v++[b]) a:=rfl;have g:aJ (b :: a) x=((b.toList==x.toList)||aJ a x):=rfl;rw[e,d,g]
  by_cases h:aJ v b=true
  ·rw[QV h]
   cases c:(b.toList==x.toList)
   ·rw[So]
   ·have f:aJ v x=true:=by
     have:b.toList=x.toList:=by simpa using c
     unfold aJ at h ⊢;rw[<-this];exact h
    rw[f];rfl
  ·rw[QS h,wl,rt,TE]
section
variable {T:List Tk} {t:Tk} {d:Db}
theorem qz(c:eZ D d.kind)(x:ByteArray)(p:Pl):aX d x p =
  if(x.toList == [36,46])=true then lK d p
  else if(x.toList == [36,61])=true/\(d.kind==5)=true/\d.U9=false then b7 d
  else if dA x=true then(8,d)
  else if d.U9=true then(0,{ d with proof:=d.proof++[(x,p)] })
  else if(aZ d x==0)=true then(0,{ d with U5:=d.U5++[x] })
  else(aZ d x,d):=by
 have b:(d.kind==0)=false/\(d.kind==6)=false:=by
  generalize d.kind=k at c
  (rcases c with ⟨rfl,rfl⟩ | ⟨rfl,rfl⟩ | ⟨rfl,rfl⟩ | ⟨rfl,rfl⟩ | ⟨rfl,rfl⟩ | ⟨rfl,rfl⟩ | ⟨rfl,rfl⟩) <;> exact⟨by decide,by decide⟩
 unfold aX;rw[b.1,b.2,QS (by simp),QS (by simp)]
theorem O6(a:eZ D z3):(z3==5)=(D == [36,112]):=by(rcases a with ⟨rfl,rfl⟩ | ⟨rfl,rfl⟩ | ⟨rfl,rfl⟩ | ⟨rfl,rfl⟩ | ⟨rfl,rfl⟩ | ⟨rfl,rfl⟩ | ⟨rfl,rfl⟩) <;> decide
theorem KQ(I:rQ T (aj T) d)(m:eZ x.toList d.kind)(e:d.U5=k)(j:(aC x||aG x)=false->d.Vd=jH T (aj T))(a:ByteArray) :
  (if((x.toList == [36,99])||(x.toList == [36,118]))=true then jW T (aj T) a (aj T).length (x.toList == [36,99]) k else jm T (aj T) x a (aj T).length k)=aZ d a:=by
 have c:=fun h=>Dc I (j h) a
 have b:=fun h=>JY I (j h) a
 have f:kV T (aj T) a (aj T).length=aJ d.Ve a:=by rw[GQ,<-I.act.l]
 have g:eF T (aj T) a (aj T).length=aJ d.U7 a:=by rw[tN,<-I.con]
 have i:decide (0<=gg T (aj T) a (aj T).length)=aJ d.typed a:=by rw[Ik,<-I.typ.l]
 obtain⟨o,r,-⟩:=ka (k:=x) rfl;unfold jW jm aZ iY iZ fC fy;rw[e]
 have n:(gg T (aj T) a (aj T).length<0) ↔ aJ d.typed a=false:=by
  rw[<-i];simp
 have p:(0<=gg T (aj T) a (aj T).length) ↔ aJ d.typed a=true:=by
  rw[<-i];simp
 generalize hkl:x.toList=l at *;generalize d.kind=q at m ⊢;simp only[f,g,n,p];rw[o,r]at c b
 rcases m with ⟨rfl,rfl⟩ | ⟨rfl,rfl⟩ | ⟨rfl,rfl⟩ | ⟨rfl,rfl⟩ | ⟨rfl,rfl⟩ | ⟨rfl,rfl⟩ | ⟨rfl,rfl⟩
 ·have c:=c (by decide)
  rw[c];simp only[show(([36,99]:List UInt8) == [36,99])=true from by decide,show((7:Int)==7)=true from rfl,Tr,TY,Su,Bool.not_true,TP,Rs,Sq]
  cases aJ k a <;> cases dK d a <;> simp
 ·have b:=b (by decide)
  rw[f,g]at b;rw[b];simp only[show(([36,118]:List UInt8) == [36,99])=false from by decide,show(([36,118]:List UInt8) == [36,118])=true from by decide,show((8:Int)==7)=false from rfl,show((8:Int)==8)=true from rfl,Bool.or_true,TY,TP,Bool.not_false,Su,Rs,Sq]
  cases aJ k a <;> cases dX d a <;> simp
 ·simp only[show(([36,100]:List UInt8) == [36,99])=false from by decide,show(([36,100]:List UInt8) == [36,118])=false from by decide,show(([36,100]:List UInt8) == [36,100])=true from by decide,show((1:Int)==7)=false from rfl,show((1:Int)==8)=false from rfl,show((1:Int)==1)=true from rfl,Sy,TY,Rs,Sq]
 ·simp only[show(([36,102]:List UInt8) == [36,99])=false from by decide,show(([36,102]:List UInt8) == [36,118])=false from by decide,show(([36,102]:List UInt8) == [36,100])=false from by decide,show(([36,102]:List UInt8) == [36,102])=true from by decide,show((2:Int)==7)=false from rfl,show((2:Int)==8)=false from rfl,show((2:Int)==1)=false from rfl,show((2:Int)==2)=true from rfl,Sy,TY,Rs,Sq,Tw]
 ·simp only[show(([36,101]:List UInt8) == [36,99])=false from by decide,show(([36,101]:List UInt8) == [36,118])=false from by decide,show(([36,101]:List UInt8) == [36,100])=false from by decide,show(([36,101]:List UInt8) == [36,102])=false from by decide,show((3:Int)==7)=false from rfl,show((3:Int)==8)=false from rfl,show((3:Int)==1)=false from rfl,show((3:Int)==2)=false from rfl,Sy,Rs,Sq,Tw]
 ·simp only[show(([36,97]:List UInt8) == [36,99])=false from by decide,show(([36,97]:List UInt8) == [36,118])=false from by decide,show(([36,97]:List UInt8) == [36,100])=false from by decide,show(([36,97]:List UInt8) == [36,102])=false from by decide,show((4:Int)==7)=false from rfl,show((4:Int)==8)=false from rfl,show((4:Int)==1)=false from rfl,show((4:Int)==2)=false from rfl,Sy,Rs,Sq,Tw]
 ·simp only[show(([36,112]:List UInt8) == [36,99])=false from by decide,show(([36,112]:List UInt8) == [36,118])=false from by decide,show(([36,112]:List UInt8) == [36,100])=false from by decide,show(([36,112]:List UInt8) == [36,102])=false from by decide,show((5:Int)==7)=false from rfl,show((5:Int)==8)=false from rfl,show((5:Int)==1)=false from rfl,show((5:Int)==2)=false from rfl,Sy,Rs,Sq,Tw]
theorem OQ(j:eZ x.toList d.kind)(b:d.U9=aJ k ⟨#[36,61]⟩)(e:d.U5=k.takeWhile kz)(c:d.U9=true->d.kind=5/\d.U5≠[])(p:Pl):ip x k=(lK d p).1/\((lK d p).1=0->(lK d p).2={ aY d p with kind:=0,label:=⟨#[]⟩,U5:=[],U9:=false,proof:=[] }/\(d.kind=2->1<d.U5.length)):=by
 have o:d.U9=false->d.U5=k:=fun h=>by rw[e];exact vo k (by rw[<-b];exact h)
 have n:d.U9=true->0<k.length/\0<d.U5.length:=fun h=>by
  refine⟨?_,TT.2 (c h).2⟩;rw[b]at h
  cases k with
  | nil=>cases h
  | cons a k=>simp
 unfold ip lK l4;rw[<-b];generalize hkl:x.toList=l at *;generalize hkk:d.kind=t at *;clear e b
 cases f:d.U9
 ·rw[o f]
  generalize k.length=m
  (rcases j with ⟨rfl,rfl⟩ | ⟨rfl,rfl⟩ | ⟨rfl,rfl⟩ | ⟨rfl,rfl⟩ | ⟨rfl,rfl⟩ | ⟨rfl,rfl⟩ | ⟨rfl,rfl⟩) <;> simp <;> (repeat' split) <;> simp_all <;> omega
 ·obtain⟨r,q⟩:=n f
  have g:=(c f).1;subst g;generalize k.length=m at *;generalize d.U5.length=s at *
  rcases j with ⟨-,h⟩ | ⟨-,h⟩ | ⟨-,h⟩ | ⟨-,h⟩ | ⟨-,h⟩ | ⟨-,h⟩ | ⟨rfl,-⟩
  all_goals first | (exfalso;revert h;decide) | skip
  simp
  (repeat' split) <;> simp_all <;> omega
end
section
variable {T:List Tk} {t:Tk} {d:Db}
theorem Gs:∀{x:ByteArray},(x.toList == [36,46])=true->bS x=true/\ii x ⟨#[36]⟩=true:=fun {x} h=>by
 rw[(ka (dd h)).2.2,Fk (dd h)];decide +kernel
theorem Fi(ok:il T (aj T) (aj T).length)(fo:l6 T (aj T) (aj T).length)(I:rQ T (aj T) d)(hk:ew T (fA T)=(x,d))(O:fA T<d)(W:d<=T.length)(S:eZ x.toList d.kind)(K:fa T d T.length=k)(R:d.U5=k.takeWhile kz)(M:d.U9=true->d.kind=5/\d.U5≠[])(hl:d.Vd=jH T (aj T)++(if(aC x||aG x)=true then [tS T (fA T)] else []))(h0:(aC x||aG x)=true->((tS T (fA T)).toList == [])=false)(X:(t.s.toList == [36,46])=true)(p:Pl)(G:d.kind=2->1<d.U5.length)(P:d.U9=false->d.U5=k)(w:y={ aY d p with kind:=0,label:=⟨#[]⟩,U5:=[],U9:=false,proof:=[] }) :
  rQ (T++[t]) (aj (T++[t])) y/\tE (T++[t]) y:=by
 obtain⟨Y,-⟩:=Gs X;obtain⟨E,c2⟩:=oQ T t;rw[QV Y,sN hk O W S]at E;rw[QV Y]at c2;simp only at E
 have v:bu (T++[t]) d=d.U5:=by
  unfold bu;rw[Sf W,vN _ t (fun u hu=>?_) X,R,<-K,mZ];have:=yS T d (by omega) u hu;unfold bS at this;simp only[R0]at this;exact this.1.1
 have F:=S.dep.1;obtain⟨s,H⟩:∃s:Sm,s=⟨fA T,T.length+1,d,x⟩:=⟨_,rfl⟩
 rw[<-H]at E;have q:s.k=x:=by rw[H]
 have A:s.h=d:=by rw[H]
 have N:s.a=fA T:=by rw[H]
 have v1:Di (T++[t]) (aj T++[s]) (aj T).length=if(x.toList == [36,118])=true then d.U5 else []:=by
  unfold Di;rw[lW,q,A,v]
 have v2:Hj (T++[t]) (aj T++[s]) (aj T).length=if(x.toList == [36,99])=true then d.U5 else []:=by
  unfold Hj;rw[lW,q,A,v]
 have v3:Ge (T++[t]) (aj T++[s]) (aj T).length=if(x.toList == [36,102])=true then [tS (T++[t]) (d+1)] else []:=by
  unfold Ge;rw[lW,q,A]
 have C:jH (T++[t]) (aj T++[s])=d.Vd:=by
  rw[tY s ok,hl]
  congr 1
  cases L:(aC x||aG x)
  ·rw[QS (by simp)];exact En (by rw[q];exact L)
  ·have e:tS (T++[t]) s.a=tS T (fA T):=by rw[N,fI T [t] _ (by omega)]
   rw[QV rfl,<-e];exact ND (by rw[q];exact L) (by rw[e];exact h0 L)
 have Q:fA (T++[t])=(T++[t]).length:=by rw[c2];simp
 have dv:y.U7=(aY d p).U7/\y.U8=(aY d p).U8/\y.Ve=(aY d p).Ve/\y.typed=(aY d p).typed/\y.blocks=(aY d p).blocks/\y.Vd=(aY d p).Vd:=by
  rw[w];exact⟨rfl,rfl,rfl,rfl,rfl,rfl⟩
 obtain⟨f,j,g,b,i,c⟩:=dv;rw[E]
 have n:y.U7=d.U7++(if(x.toList == [36,99])=true then d.U5 else [])->(∀r,aJ y.U8 r=(aJ d.U8 r||aJ (if(x.toList == [36,118])=true then d.U5 else []) r))->y.Ve=d.Ve++(if(x.toList == [36,118])=true then d.U5 else [])->y.typed=d.typed++(if(x.toList == [36,102])=true then [tS (T++[t]) (d+1)] else [])->y.blocks=d.blocks->y.Vd=d.Vd->rQ (T++[t]) (aj T++[s]) y/\tE (T++[t]) y:=fun g1 g2 g3 g4 g5 g6 =>
  ⟨I.close ok fo s (fun o=>by rw[q];exact F o) (by rw[v2];exact g1) (fun r=>by rw[v1];exact g2 r) (by rw[v1];exact g3) (by rw[v3];exact g4) g5,
   tE.none Q (by rw[w]) (by rw[w]) (by rw[w]) (by rw[E,C];exact g6)⟩
 -- the seven keys
 have m:∀B:Int,d.kind=B->(B==7)=false->(B==8)=false->(B==2)=false->aY d p=mX d p:=fun B V e7 e8 e2=>by
  unfold aY mN;rw[V,e7,e8,e2];simp
 generalize hkl:x.toList=l at *;generalize hkk:d.kind=B at *
 rcases S with ⟨rfl,rfl⟩ | ⟨rfl,rfl⟩ | ⟨rfl,rfl⟩ | ⟨rfl,rfl⟩ | ⟨rfl,rfl⟩ | ⟨rfl,rfl⟩ | ⟨rfl,rfl⟩
 ·have e:aY d p={ d with U7:=d.U7++d.U5 }:=by unfold aY;rw[hkk];rfl
  rw[e]at f j g b i c;exact n (by rw[f];rfl) (fun r=>by rw[j];simp[iJ]) (by rw[g];simp) (by rw[b];simp) i c
 ·have e:aY d p=dO d d.U5.length:=by unfold aY;rw[hkk];rfl
  rw[e]at f j g b i c;unfold dO at f j g b i c;exact n (by rw[f];simp) (fun r=>by rw[j];simp only[RI];rw[BO];rfl) (by rw[g];rfl) (by rw[b];simp) i c
 ·have e:=m 1 rfl rfl rfl rfl
  rw[e]at f j g b i c;unfold mX at f j g b i c;exact n (by rw[f];simp) (fun r=>by rw[j];simp[iJ]) (by rw[g];simp) (by rw[b];simp) i c
 ·have G:=G rfl
  have J:d.U9=false:=by
   cases h:d.U9
   ·rfl
   ·exact absurd (M h).1 (by decide)
  have D:=P J
  have e:aY d p=mX { d with typed:=d.typed++[d.U5.getD 1 ⟨#[]⟩] } p:=by
   unfold aY mN;rw[hkk,QS (by decide),QS (by decide),QV ⟨rfl,G⟩]
  have hg:d.U5.getD 1 ⟨#[]⟩=tS (T++[t]) (d+1):=by
   have z:d+1<T.length:=by
    rw[D,<-K,mZ,Rh,RQ]at G;omega
   rw[D,<-K,mZ,fI T [t] _ z];unfold tS;rw[QP,QP,Rp,SU,QO z];rfl
  rw[e]at f j g b i c;unfold mX at f j g b i c;exact n (by rw[f];simp) (fun r=>by rw[j];simp[iJ]) (by rw[g];simp) (by rw[b,hg];rfl) i c
 ·have e:=m 3 rfl rfl rfl rfl
  rw[e]at f j g b i c;unfold mX at f j g b i c;exact n (by rw[f];simp) (fun r=>by rw[j];simp[iJ]) (by rw[g];simp) (by rw[b];simp) i c
 ·have e:=m 4 rfl rfl rfl rfl
  rw[e]at f j g b i c;unfold mX at f j g b i c;exact n (by rw[f];simp) (fun r=>by rw[j];simp[iJ]) (by rw[g];simp) (by rw[b];simp) i c
 ·have e:=m 5 rfl rfl rfl rfl
  rw[e]at f j g b i c;unfold mX at f j g b i c;exact n (by rw[f];simp) (fun r=>by rw[j];simp[iJ]) (by rw[g];simp) (by rw[b];simp) i c
theorem AA(m:il T (aj T) (aj T).length)(w:l6 T (aj T) (aj T).length)(I:rQ T (aj T) d)(n:ew T (fA T)=(x,d))(b:fA T<d)(i:d<=T.length)(j:eZ x.toList d.kind)(p:fa T d T.length=k)(o:d.Vd=jH T (aj T)++(if(aC x||aG x)=true then [tS T (fA T)] else []))(B:(aC x||aG x)=true->((tS T (fA T)).toList == [])=false)(v:bS t.s=false)(r:y.U7=d.U7)(z:y.U8=d.U8)(D:y.Ve=d.Ve)(A:y.typed=d.typed)(q:y.blocks=d.blocks)(u:y.Vd=d.Vd)(C:y.kind=d.kind)(e:y.U9=aJ (k++[t.s]) ⟨#[36,61]⟩)(f:y.U5=(k++[t.s]).takeWhile kz)(c:y.U9=true->y.kind=5/\y.U5≠[]):rQ (T++[t]) (aj (T++[t])) y/\tE (T++[t]) y:=by
 obtain⟨l,g⟩:=mE (T:=T) (t:=t) v;have a:tS (T++[t]) (fA (T++[t]))=tS T (fA T):=by rw[g,fI T [t] _ (by omega)]
 refine⟨by rw[l];exact I.same m w r z D A q,tE.body x d (k++[t.s]) (by rw[g];exact sN n b i j) (by rw[g];exact b) (by simp;omega) (by rw[C];exact j) (by rw[KI t d i,p]) e f c ?_ (fun h=>by rw[a];exact B h)⟩;rw[l,qm m,a,u];exact o
theorem JP(D:il T (aj T) (aj T).length)(z:l6 T (aj T) (aj T).length)(I:rQ T (aj T) d)(u:ew T (fA T)=(x,d))(c:fA T<d)(r:d<=T.length)(i:eZ x.toList d.kind)(w:fa T d T.length=k)(a:d.U9=aJ k ⟨#[36,61]⟩)(f:d.U5=k.takeWhile kz)(j:d.U9=true->d.kind=5/\d.U5≠[])(n:d.Vd=jH T (aj T)++(if(aC x||aG x)=true then [tS T (fA T)] else []))(B:(aC x||aG x)=true->((tS T (fA T)).toList == [])=false)(p:Pl) :
  lV T (aj T) x t.s (aj T).length k=(aX d t.s p).1/\((aX d t.s p).1=0->rQ (T++[t]) (aj (T++[t])) (aX d t.s p).2/\tE (T++[t]) (aX d t.s p).2):=by
 have l:d.U9=false->d.U5=k:=fun h=>by rw[f];exact vo k (by rw[<-a];exact h)
 have o:(⟨#[36,61]⟩:ByteArray).toList=[36,61]:=by decide +kernel
 rw[qz i];unfold lV
 cases S:(t.s.toList == [36,46])
 ·simp only[Rs,Sq]
  rw[<-a,<-O6 i]
  cases y:((t.s.toList == [36,61])&&((d.kind==5) && !d.U9))
  ·have H:¬((t.s.toList == [36,61])=true/\(d.kind==5)=true/\d.U9=false):=fun h=>by
    rw[h.1,h.2.1,h.2.2]at y;cases y
   simp only[Rs,Sq];rw[QS H,ia]
   cases L:dA t.s
   ·have g:bS t.s=false:=by
     cases J:bS t.s
     ·rfl
     ·have:=(kL J).1
      rw[ia,L]at this;cases this
    have F:(t.s.toList == [36,61])=false:=by
     cases J:(t.s.toList == [36,61])
     ·rfl
     ·have e:=Fk (dd J)
      rw[ia,L]at e;exact absurd e (by decide +kernel)
    simp only[Rs,Sq]
    cases A:d.U9
    ·have C:=l A
     simp only[Rs,Sq];have O:=KQ I i C (fun h=>by rw[n,QS (by rw[h];simp),Rk]) t.s;rw[O]
     have b:aJ (k++[t.s]) ⟨#[36,61]⟩=false:=by
      rw[wl,rt,<-a,A,o,F];rfl
     cases G:(aZ d t.s==0)
     ·simp only[Rs,Sq]
      exact⟨trivial,fun h=>by rw[h]at G;cases G⟩
     ·rw[QV rfl]
      refine⟨by simpa using G,fun _=>AA D z I u c r i w n B g rfl rfl rfl rfl rfl rfl rfl b.symm ?_ (fun h=>Bool.noConfusion h)⟩;rw[vo _ b];simp only;rw[C]
    ·have M:aJ k ⟨#[36,61]⟩=true:=by rw[<-a];exact A
     rw[QV rfl,QV rfl];exact⟨rfl,fun _=>AA D z I u c r i w n B g rfl rfl rfl rfl rfl rfl rfl (by rw[wl,M,Tr]) (by rw[MD _ _ M];exact f) (fun _=>j A)⟩
   ·rw[QV rfl,QV rfl]
    exact⟨rfl,fun h=>by cases h⟩
  ·simp only[Rf,Bool.not_eq_true']at y
   obtain⟨v,N,E⟩:=y;have C:=l E;rw[QV rfl,QV (show(t.s.toList == [36,61])=true/\(d.kind==5)=true/\d.U9=false from⟨v,N,E⟩)];unfold b7;rw[C]
   by_cases m:k.length=0
   ·rw[QV m,QV m]
    exact⟨rfl,fun h=>by cases h⟩
   ·rw[QS m,QS m]
    have g:bS t.s=false:=by rw[(ka (dd v)).2.2];decide
    have K:aJ k ⟨#[36,61]⟩=false:=by rw[<-a];exact E
    have b:aJ (k++[t.s]) ⟨#[36,61]⟩=true:=by rw[wl,rt,o,v,Bool.or_true]
    refine⟨rfl,fun _=>AA D z I u c r i w n B g rfl rfl rfl rfl rfl rfl rfl b.symm ?_ (fun _=>⟨by simpa using N,?_⟩)⟩
    ·have q:=Lm k K
     rw[List.takeWhile_append_of_pos q,Tj (by unfold kz;rw[v];simp),Rk]
    ·simp only
     intro e;rw[e]at m;exact m rfl
 ·rw[QV rfl,QV rfl]
  obtain⟨Q,P⟩:=OQ i a f j p;refine⟨Q,fun h=>?_⟩;obtain⟨U,R⟩:=P h;exact Fi D z I u c r i w f j n B S p R l U
theorem pG(a:(x.toList == [36,123])=false)(b:(x.toList == [36,125])=false)(o:Int):aO o x=o:=by
 unfold aO;rw[a,b];rfl
theorem zK(h:dA x=false)(o:Int):aO o x=o:=by
 have a:bS x=false:=by
  cases b:bS x
  ·rfl
  ·have:=(kL b).1
   rw[ia,h]at this;cases this
 unfold bS at a;simp only[R0]at a;exact pG a.1.2 a.2 o
theorem vT(d:Db)(p:Pl):(aY d p).blocks=d.blocks:=by
 unfold aY dO mX mN
 split
 ·rfl
 ·split
  ·rfl
  ·split <;> rfl
theorem C9(o:tE T d)(x:ByteArray)(p:Pl)(h:(aX d x p).1=0):((aX d x p).2.blocks.length:Int)=aO (d.blocks.length:Int) x:=by
 rcases o with ⟨A,i,g,f,r⟩ | ⟨A,i,g,f,r,z,D⟩ | ⟨u,m,B,i,w,a,y,E,f,g,t,r,F⟩
 ·have e:aX d x p=av d x:=by unfold aX;rw[i];rfl
  rw[e]at h ⊢
  cases b:(x.toList == [36,123])
  ·cases c:(x.toList == [36,125])
   ·rw[pG b c]
    unfold av bI;rw[b,c,QS (by simp),QS (by simp)]
    repeat' split
    all_goals rfl
   ·have k:av d x=(match d.blocks.getLast? with | none=>(9,d) | some p=>(0,cw d p)):=by
     unfold av;rw[b,c,QS (by simp),QV rfl];rfl
    rw[k]at h ⊢
    cases l:d.blocks.getLast? with
    | none=>rw[l]at h;cases h
    | some q =>
     have n:0<d.blocks.length:=by
      rw[TT];intro e;rw[e]at l;cases l
     have v:(cw d q).blocks=d.blocks.dropLast:=by
      unfold cw dq
      split <;> rfl
     simp only;rw[v,rm (dd c),SE]
     show((d.blocks.length-1:Nat):Int)=(d.blocks.length:Int)-1
     omega
  ·have k:av d x=(0,{ d with blocks:=d.blocks++[(d.Ve.length,d.typed.length)],rbl:=d.rbl++[d.sts.length] }):=by
    unfold av;rw[b,QV rfl]
   rw[k,rm (dd b)];simp only[QZ,Ro,Rr]
   show((d.blocks.length+(0+1):Nat):Int)=(d.blocks.length:Int)+1
   omega
 ·have e:aX d x p=aH d x:=by unfold aX;rw[i];rfl
  rw[e]at h ⊢
  have C:aO (d.blocks.length:Int) x=(d.blocks.length:Int):=by
   refine pG ?_ ?_ _
   ·cases a:(x.toList == [36,123])
    ·rfl
    ·exfalso
     unfold aH at h;rw[ci a,ci a,ci a,ci a,QS (by decide),QS (by decide),QS (by decide),QS (by decide)]at h
     cases h
   ·cases a:(x.toList == [36,125])
    ·rfl
    ·exfalso
     unfold aH at h;rw[ci a,ci a,ci a,ci a,QS (by decide),QS (by decide),QS (by decide),QS (by decide)]at h
     cases h
  rw[C];unfold aH
  repeat' split
  all_goals rfl
 ·rw[qz y]at h ⊢
  cases b:(x.toList == [36,46])
  ·rw[b,QS (by simp)]at h
   rw[QS (by simp)]
   by_cases c:(x.toList == [36,61])=true/\(d.kind==5)=true/\d.U9=false
   ·rw[QV c,pG (by rw[ci c.1];decide) (by rw[ci c.1];decide)]
    unfold b7
    split <;> rfl
   ·rw[QS c]at h ⊢
    cases s:dA x
    ·rw[zK s,QS (by simp)]
     repeat' split
     all_goals rfl
    ·rw[s,QV rfl]at h;cases h
  ·rw[QV rfl,pG (by rw[ci b];decide) (by rw[ci b];decide)]
   unfold lK
   split
   ·rfl
   ·split
    ·rfl
    ·simp only;rw[vT]
end
end Go.Proofs.YtpddjjabfbfifaaGreat
