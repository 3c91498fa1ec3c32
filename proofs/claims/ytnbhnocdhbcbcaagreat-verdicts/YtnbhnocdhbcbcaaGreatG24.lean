import Derived.Test.YtnbhnocdhbcbcaaGreatG05
import Derived.Test.YtnbhnocdhbcbcaaGreatG17
namespace Go.Proofs.YtnbhnocdhbcbcaaGreat
open Go.RowKit Tryz
open Value IntKind Ending
set_option maxHeartbeats 0
variable{z4:Int}{i A:List Tk}{I zb:Nat}{z6 y0:Nat->Bool}{x:List Sm}{u C:Nat->List ByteArray}{z5:Sm}{z3:List ByteArray}{E:List Nat}{N z2:Db}{r:List UInt8}{z:ByteArray}(L:ByteArray)(o H:List Tk)(F y:List Sm)(D:Nat)(z7:Int)(z0:List Nat)(l:ByteArray)(b:Nat)(zt:Bool)(m:List ByteArray)(w:ByteArray)(z1:Nat->Bool)(B:Tk)(g:Sm)
def lZ(nm d:ByteArray)(i:sJ):Tk:=⟨i.text,i.rule,nm,aR d i.pos,bC d i.pos⟩
def Pg(nm d:ByteArray):Nat->Nat->List Tk
 | 0,_=>[]
 | f+1,k=>lZ nm d (bJ d k).1 :: (if aK (bJ d k).1=true then Pg nm d f (bJ d k).2 else [])
def nF(nm d:ByteArray)(k:Nat):List Tk:=Pg nm d (d.size-k+1) k
theorem NF(f k:Nat)(a:k<=w.size)(b:w.size-k+1<=f):Pg l w f k=nF l w k:=by
 unfold nF
 suffices h:∀f g k,k<=w.size->w.size-k+1<=f->w.size-k+1<=g->Pg l w f k=Pg l w g k from h _ _ _ a b (RV _)
 clear b a f k;intro f
 induction f with
 | zero=>intro g k _ h;omega
 | succ f e =>
  intro g k a b i;cases g with
  | zero=>omega
  | succ g =>
   rw[Pg,Pg];split
   ·next h =>
    have c:=gZ w k a;have d:=c.2.2 h;rw[e g _ c.2.1 (by omega) (by omega)]
   ·rfl
theorem lU(c:b<=l.size)(h:aK (bJ l b).1=true):nF L l b=lZ L l (bJ l b).1 :: nF L l (bJ l b).2:=by
 have a:=gZ l b c;have d:=a.2.2 h
 conv=>lhs;unfold nF
 rw[Pg,RY h,NF L l _ _ a.2.1 (by omega)]
theorem kz(h:aK (bJ l b).1=false):nF L l b=[lZ L l (bJ l b).1]:=by
 unfold nF;rw[Pg,RU (by simp[h])]
theorem Fv(h:b<l.size)(a:da (aH l b)=true):bJ l b=bJ l (b+1):=by
 unfold bJ;rw[Ht l b h a]
theorem vB(h:b<l.size)(c:da (aH l b)=true):nF L l b=nF L l (b+1):=by
 have e:=Fv l b h c;cases a:aK (bJ l b).1
 ·rw[kz L l b a,kz L l (b+1) (by rw[<-e];exact a),e]
 ·rw[lU L l b (by omega) a,lU L l (b+1) (by omega) (by rw[<-e];exact a),e]
theorem DN(n:Nat):∀a,(∀j,a<=j->j<a+n->j<w.size/\da (aH w j)=false/\fI (aH w j)=true)->cU w a=cU w (a+n):=by
 induction n with
 | zero=>intro a _;rfl
 | succ n c =>
  intro a h;have b:=h a (by omega) (by omega);rw[Ij w a b.1 b.2.1 b.2.2,c (a+1) (fun j d e=>h j (by omega) (by omega))];congr 1;omega
theorem Ee(h:rg z4=false)(a:da z4=false):fI z4=true:=by
 unfold rg at h;rw[a]at h;simpa using h
theorem Dl(a:D<b)(i:b<=L.size)(c:∀j,D<=j->j<b->da (aH L j)=false/\fI (aH L j)=true)(f:b<L.size->da (aH L b)=true):bJ L D=(⟨L.extract D b,0,false,D⟩,b):=by
 have d:=DN L (b-D) D (fun j e g=>⟨by omega,c j e (by omega)⟩);rw[show D+(b-D)=b by omega]at d;refine zB L D D b (tY L D (fun h=>?_)).symm d.symm (fun h=>?_) a
 ·rw[(c D (RV _) a).1]at h;simp at h
 ·rw[f h.1]at h;simp at h
theorem oG(i:Nat):∀j,dx w i<=j->j<i->da (aH w j)=false:=by
 induction i with
 | zero=>intro j _ h;omega
 | succ i c =>
  intro j a d;rw[dx]at a;split at a
  ·omega
  ·next b =>
   by_cases e:j=i
   ·rw[e];simpa using b
   ·exact c j a (by omega)
theorem yh(i:Nat)(k:i<=w.size)(f:∀j,j<i->rg (aH w j)=false):nF l w 0=jz l w i++nF l w (dx w i):=by
 induction i with
 | zero=>rfl
 | succ i b =>
  have b:=b (by omega) (fun j m=>f j (by omega));rw[jz,dx];cases a:da (aH w i)
  ·rw[RU (by simp),RU (by simp)];exact b
  ·rw[RY rfl,RY rfl];have n:=oI w i;unfold jA;split
   ·next e =>
    rw[b,e,vB l w i (by omega) a]
   ·next e =>
    have g:=Dl w (dx w i) i (by omega) (by omega) (fun j c d=>⟨oG w i j c d,Ee (f j (by omega)) (oG w i j c d)⟩) (fun _=>a);rw[b,lU l w (dx w i) (by omega) (by rw[g];rfl),g,<-vB l w i (by omega) a];simp[lZ,mJ]
theorem Gh:iA l w=nF l w 0:=by
 unfold iA;cases d:jZ w with
 | some i =>
  unfold jZ at d;rw[Tx]at d;obtain⟨b,c,r⟩:=d;have c:=Sd.1 c;have f:∀j,j<i->rg (aH w j)=false:=fun j m=>by simpa using r j m
  have p:=oI w i;have g:∀j,dx w i<=j->j<dx w i+(i-dx w i)->j<w.size/\da (aH w j)=false/\fI (aH w j)=true:=fun j b c=>⟨by omega,oG w i j b (by omega),Ee (f j (by omega)) (oG w i j b (by omega))⟩
  have n:fI (aH w i)=false/\da (aH w i)=false:=by
   unfold rg at b;simpa using b
  have q:=DN w (i-dx w i) (dx w i) g;rw[show dx w i+(i-dx w i)=i by omega]at q
  have o:dx w i=skip w (dx w i):=(tY w _ (fun h=>by
   by_cases e:dx w i=i
   ·rw[e,n.2]at h;simp at h
   ·rw[(g (dx w i) (RV _) (by omega)).2.1]at h;simp at h)).symm
  have k:=Dj w (dx w i) (dx w i) i o q.symm c n.2 n.1;simp only;rw[yh l w i (by omega) f,kz l w (dx w i) (by rw[k];rfl),k];simp[lZ,mJ]
 | none =>
  have f:∀j,j<w.size->rg (aH w j)=false:=fun j m=>by
   unfold jZ at d;rw[Tn]at d;simpa using d j (Sd.2 m)
  have p:=oI w w.size;have a:bJ w w.size=(⟨⟨#[]⟩,0,true,w.size⟩,w.size):=Dk w w.size w.size w.size (tY w _ (fun h=>by omega)).symm rfl (fun h=>by omega) (RV _);simp only;rw[yh l w w.size (RV _) f];unfold jA;split
  ·next e =>
   rw[e,kz l w w.size (by rw[a];rfl),a];simp[lZ,mJ]
  ·next e =>
   have k:=Dl w (dx w w.size) w.size (by omega) (RV _) (fun j b c=>⟨oG w _ j b c,Ee (f j c) (oG w _ j b c)⟩) (fun h=>by omega);rw[lU l w (dx w w.size) p (by rw[k];rfl),k,kz l w w.size (by rw[a];rfl),a];simp[lZ,mJ]
def O9(nm d:ByteArray):Nat->Nat->List Tk
 | 0,_=>[]
 | f+1,k=>lZ nm d (aA d k).1 :: (if aK (aA d k).1=true then O9 nm d f (aA d k).2 else [])
def mx(nm d:ByteArray)(k:Nat):List Tk:=O9 nm d (d.size-k+1) k
theorem No(f k:Nat)(a:k<=w.size)(b:w.size-k+1<=f):O9 l w f k=mx l w k:=by
 unfold mx
 suffices h:∀f g k,k<=w.size->w.size-k+1<=f->w.size-k+1<=g->O9 l w f k=O9 l w g k from h _ _ _ a b (RV _)
 clear b a f k;intro f
 induction f with
 | zero=>intro g k _ h;omega
 | succ f e =>
  intro g k a b i;cases g with
  | zero=>omega
  | succ g =>
   rw[O9,O9];split
   ·next h =>
    have c:=fT w k a;have d:=c.2.2 h;rw[e g _ c.2.1 (by omega) (by omega)]
   ·rfl
theorem kp(c:b<=l.size)(h:aK (aA l b).1=true):mx L l b=lZ L l (aA l b).1 :: mx L l (aA l b).2:=by
 have a:=fT l b c;have d:=a.2.2 h
 conv=>lhs;unfold mx
 rw[O9,RY h,No L l _ _ a.2.1 (by omega)]
theorem ko(h:aK (aA l b).1=false):mx L l b=[lZ L l (aA l b).1]:=by
 unfold mx;rw[O9,RU (by simp[h])]
theorem FN(j:Nat)(d:b<=l.size)(c:j<=l.size)(h:aA l b=aA l j):mx L l b=mx L l j:=by
 cases a:aK (aA l b).1
 ·rw[ko L l b a,ko L l j (by rw[<-h];exact a),h]
 ·rw[kp L l b d a,kp L l j c (by rw[<-h];exact a),h]
theorem Id(c:UInt8):gW w ⟨#[36,c]⟩=(List.range w.size).any (fun i=>decide (1<=i)&&(aH w (i-1)==36)&&(aH w i==(c.toNat:Int))):=by
 have d:(⟨#[36,c]⟩:ByteArray).size=2:=rfl;have b:∀i,i+2<=w.size->(sA w ⟨#[36,c]⟩ i=((aH w i==36)&&(aH w (i+1)==(c.toNat:Int)))):=fun i a=>by
  have e:(w.extract i (i+2)).toList=[w[i]'(by omega),w[i+1]'(by omega)]:=by
   apply Vm
   ·rw[SM];simp;omega
   ·intro n m k;simp only[List.length_cons,List.length_nil]at k;have l:n=0∨n=1:=by omega
    simp only[ByteArray.toList_eq,ByteArray.data_extract,Array.getElem_toList,Array.getElem_extract];rcases l with rfl | rfl <;> rfl
  unfold sA;rw[d,e,bU w i (by omega),bU w (i+1) (by omega)];have j:(⟨#[36,c]⟩:ByteArray).toList=[36,c]:=by rw[SM]
  rw[j];have f:∀x:UInt8,((x.toNat:Int)==36)=(x==36):=fun x=>by
   rw[Tu];simp only[beq_iff_eq];constructor
   ·intro h;exact UInt8.toNat_inj.1 (by rw[show x.toNat=36 by omega];rfl)
   ·rintro rfl;rfl
  have g:∀x:UInt8,((x.toNat:Int)==(c.toNat:Int))=(x==c):=fun x=>by
   rw[Tu];simp only[beq_iff_eq];constructor
   ·intro h;exact UInt8.toNat_inj.1 (by omega)
   ·rintro rfl;rfl
  rw[f,g];simp[Bool.beq_eq_decide_eq,Bool.decide_and]
 unfold gW;rw[d,Tu,SQ,SQ];constructor
 ·rintro ⟨i,a,h⟩;have a:=Sd.1 a;rw[Sk,Tm]at h;rw[b i h.1]at h;exact⟨i+1,Sd.2 (by omega),by rw[Tq,Sk,Sk,Tm];rw[Sk]at h;exact⟨⟨by omega,h.2.1⟩,h.2.2⟩⟩
 ·rintro ⟨i,a,h⟩;have a:=Sd.1 a;rw[Sk,Sk,Tm]at h;refine⟨i-1,Sd.2 (by omega),?_⟩;rw[Sk,Tm,b (i-1) (by omega),Sk,show i-1+1=i by omega];exact⟨by omega,h.1.2,h.2⟩
theorem vg:kL w=(gW w ⟨#[36,40]⟩||gW w ⟨#[36,41]⟩):=by
 rw[Id,Id,Tu,SL];unfold kL;simp only[List.any_eq_true,Bool.and_eq_true,Bool.or_eq_true];constructor
 ·rintro ⟨i,c,b,a | a⟩
  ·exact R4 ⟨i,c,b,a⟩
  ·exact RZ ⟨i,c,b,a⟩
 ·rintro (⟨i,c,b,a⟩ | ⟨i,c,b,a⟩)
  ·exact⟨i,c,b,R4 a⟩
  ·exact⟨i,c,b,RZ a⟩
theorem iu:gW w ⟨#[36]⟩=dn w:=by
 have b:(⟨#[36]⟩:ByteArray).size=1:=rfl;have a:∀i,i+1<=w.size->(sA w ⟨#[36]⟩ i=(aH w i==36)):=fun i c=>by
  have e:(w.extract i (i+1)).toList=[w[i]'(by omega)]:=by
   apply Vm
   ·rw[SM];simp;omega
   ·intro n j f;simp only[List.length_cons,List.length_nil]at f;have g:n=0:=by omega
    simp only[ByteArray.toList_eq,ByteArray.data_extract,Array.getElem_toList,Array.getElem_extract];subst g;rfl
  unfold sA;rw[b,e,bU w i (by omega)];have d:(⟨#[36]⟩:ByteArray).toList=[36]:=by rw[SM]
  rw[d,Tu];simp only[beq_iff_eq,List.cons.injEq,and_true];constructor
  ·intro h;rw[h];rfl
  ·intro h;exact UInt8.toNat_inj.1 (by rw[show(w[i]'(by omega)).toNat=36 by omega];rfl)
 unfold gW dn;rw[b,Tu,SQ,SQ];constructor
 ·rintro ⟨i,c,h⟩;rw[Sk,Tm]at h;rw[a i h.1]at h;exact⟨i,Sd.2 (by omega),h.2⟩
 ·rintro ⟨i,c,h⟩;have c:=Sd.1 c;exact⟨i,Sd.2 (by omega),by rw[Sk,Tm,a i (by omega)];exact⟨by omega,h⟩⟩
theorem tW(c:b<=l.size):(aK (bJ l b).1=true->((bJ l b).1.text.toList == [])=false/\(bJ l b).1.rule=0)/\(aK (bJ l b).1=false->(bJ l b).1.text=⟨#[]⟩/\((bJ l b).1.fin=true->(bJ l b).1.rule=0)):=by
 have a:=Ba l b c;have d:=sC l (skip l b) a.2;unfold bJ;simp only;split
 ·exact⟨fun h=>by simp[aK]at h,fun _=>⟨rfl,fun h=>by cases h⟩⟩
 ·split
  ·exact⟨fun h=>by simp[aK]at h,fun _=>⟨rfl,fun _=>rfl⟩⟩
  ·next f g =>
   refine⟨fun _=>⟨?_,rfl⟩,fun h=>by simp[aK]at h⟩;have i:(l.extract (skip l b) (cU l (skip l b))).size=cU l (skip l b)-skip l b:=by
    rw[UL];omega
   cases e:((l.extract (skip l b) (cU l (skip l b))).toList == [])
   ·rfl
   ·have e:(l.extract (skip l b) (cU l (skip l b))).toList=[]:=(by simpa using e);have:=congrArg List.length e;rw[SM]at this;have j:cU l (skip l b)-skip l b=0∨l.size-skip l b=0:=(by simpa using this);omega
theorem Lq(f:Nat):∀k,k<=w.size->w.size-k+1<=f ->
  bV true (nF l w k)=(if aK (bb w k).1=true then bV false (nF l w (bb w k).2) else [lZ l w (bb w k).1]):=by
 induction f with
 | zero=>intro k _ h;omega
 | succ f o =>
  intro k i r;have j:=gZ w k i;obtain⟨p,q⟩:=tW w k i;cases a:aK (bJ w k).1
  ·obtain⟨d,e⟩:=q a;rw[kz l w k a];cases b:(bJ w k).1.fin
   ·have n:((bJ w k).1.rule==0)=false:=by
     unfold aK at a;rw[b]at a;simpa using a
    rw[vk w k a b,a,RU (by simp),bV,RY (by exact n)];rw[bV]
   ·rw[te w k a b,RU (by simp[aK]),bV,RU (by simp[lZ,e b]),RU (by simp[lZ,DP,d]),RY (by simp[lZ,DP,d]),bV];rfl
  ·obtain⟨d,e⟩:=p a;have m:=j.2.2 a;rw[lU l w k i a];cases c:((bJ w k).1.text.toList == [36,41])
   ·cases g:kL (bJ w k).1.text
    ·rw[wE w k i a c g,bV,RU (by simp[lZ,e]),RU (by simp only[lZ,DP];rw[c];simp),RU (by simp only[lZ,DP];rw[d];simp),RU (by rw[<-vg];simp only[lZ];rw[g];simp)];exact o _ j.2.1 (by omega)
    ·rw[ta w k a c g,RU (by simp[aK]),bV,RU (by simp[lZ,e]),RU (by simp only[lZ,DP];rw[c];simp),RU (by simp only[lZ,DP];rw[d];simp),RY (by rw[<-vg];exact g)];rfl
   ·rw[rm w k a c,RY a,bV,RU (by simp[lZ,e]),RY (by simp only[lZ,DP];exact c)]
theorem Iy(f:Nat):∀k,k<=w.size->w.size-k+1<=f->bV false (nF l w k)=mx l w k:=by
 induction f with
 | zero=>intro k _ h;omega
 | succ f j =>
  intro k d q;have i:=gZ w k d;obtain⟨r,o⟩:=tW w k d;cases b:aK (bJ w k).1
  ·obtain⟨m,p⟩:=o b;have a:=rZ w k (R4 b);rw[kz l w k b,ko l w k (by rw[a];exact b),a,bV,RU (by simp[lZ,DP,m]),bV]
  ·have n:=i.2.2 b;rw[lU l w k d b];cases e:((bJ w k).1.text.toList == [36,40])
   ·have a:=rZ w k (RZ e);rw[kp l w k d (by rw[a];exact b),a,bV,RU (by simp only[lZ,DP];rw[e];simp),j _ i.2.1 (by omega)]
   ·have g:=ji w (bJ w k).2 i.2.1;rw[bV,RY (by simp only[lZ,DP];exact e),Lq l w _ _ i.2.1 (RV _)];cases c:aK (bb w (bJ w k).2).1
    ·have a:=vq w k b e c;rw[RU (by simp),ko l w k (by rw[a];exact c),a]
    ·have a:=GX w k d b e c;rw[RY rfl,j _ g.2 (by omega)];exact(FN l w k _ d g.2 a).symm
theorem zM(a:Fs)(k:Nat):rD a k=mx (aD a k) (ak a k) 0:=by
 unfold rD;rw[Gh];exact Iy _ _ _ 0 (SE _) (RV _)
theorem fK(h:b<o.length):tS (o++H) b=tS o b:=by
 unfold tS;rw[RT,RT,Si h]
theorem nN:tS (H++[B]) H.length=B.s:=by
 unfold tS;rw[RT,Sf (RV _),Td];rfl
theorem AD(h:b+1<o.length):dQ (o++H) b=dQ o b:=by
 unfold dQ;rw[fK o H b (by omega),fK o H (b+1) h,R9];have a:decide (o.length+H.length<=b+1)=false:=by simp;omega
 have c:decide (o.length<=b+1)=false:=by simp;omega
 rw[a,c]
theorem Jg(d:D<=b)(c:b<o.length)(a:bY (tS o b)=true):dQ (o++H) D=dQ o D:=by
 by_cases e:D=b
 ·subst e;unfold dQ;rw[fK o H D c,(lg a).1];simp
 ·exact AD o H D (by omega)
theorem xl(i:Nat)(c:i<=o.length):fh (o++H) i=fh o i:=by
 induction i with
 | zero=>rfl
 | succ i b =>
  rw[fh,fh,b (by omega),fK o H i (by omega)];cases a:bY (tS o i)
  ·rfl
  ·rw[Jg o H _ i (Mw o i) (by omega) a]
theorem E4(k:Nat):∃M,(fh H (b+k)).1=(fh H b).1++M/\∀m∈M,b<m.z:=by
 induction k with
 | zero=>exact⟨[],by simp,by simp⟩
 | succ k e =>
  obtain⟨M,a,c⟩:=e;rw[show b+(k+1)=(b+k)+1 by omega,fh];split
  ·refine⟨M++[⟨(fh H (b+k)).2,b+k+1,(dQ H (fh H (b+k)).2).2,(dQ H (fh H (b+k)).2).1⟩],by simp only[a,List.append_assoc],fun m d=>?_⟩;rcases SB.1 d with h | h
   ·exact c m h
   ·rw[Se.1 h];show b<b+k+1;omega
  ·exact⟨M,a,c⟩
theorem zK:∃M,ab (o++H)=ab o++M/\∀m∈M,o.length<m.z:=by
 obtain⟨M,a,b⟩:=E4 (o++H) o.length H.length;refine⟨M,?_,b⟩;unfold ab;rw[R9,a,xl o H _ (RV _)]
def fa(T:List Tk):Nat:=(fh T T.length).2
theorem Fa:fa H=kJ (ab H) (ab H).length:=(dL H).fr
theorem nz:ab (H++[B])=(if bY B.s=true then ab H++[⟨fa H,H.length+1,(dQ (H++[B]) (fa H)).2,(dQ (H++[B]) (fa H)).1⟩] else ab H)/\fa (H++[B])=(if bY B.s=true then H.length+1 else fa H):=by
 unfold ab fa;rw[R9,SA,SN,fh,xl H [B] H.length (RV _),nN];split <;> exact⟨rfl,rfl⟩
theorem jt(h:b<F.length):aq (F++y) b=aq F b:=by
 unfold aq;rw[RT,RT,Si h]
theorem BG(h:b<=F.length):kJ (F++y) b=kJ F b:=by
 unfold kJ;split
 ·rw[jt F y (b-1) (by omega)]
 ·rfl
theorem Gz(S M:List Sm)(h:∀m∈M,b<m.z):nU b (S++M)=nU b S:=by
 induction S with
 | nil =>
  cases M with
  | nil=>rfl
  | cons m M =>
   have:=h m (by simp)
   show(if m.z<=b then nU b M+1 else 0)=0
   rw[RU (by omega)]
 | cons s S a=>rw[Ur,nU,nU,a]
theorem rL(h:b<=F.length):aM (F++y) D b=aM F D b:=by
 unfold aM;by_cases a:D<=F.length
 ·rw[Th a,TA (by rw[Tc];omega)]
 ·rw[show b-D=0 by omega];simp
theorem lJ(h:b<=F.length):bm (F++y) b=bm F b:=by
 unfold bm;rw[TA h]
theorem yU(L M:List Tk)(h:∃u∈L,nB u.s=true):ly (L++M)=ly L:=by
 induction L with
 | nil=>obtain⟨u,b,-⟩:=h;cases b
 | cons a L e =>
  rw[Ur,ly,ly];split
  ·rfl
  ·next d =>
   rw[e];obtain⟨u,b,c⟩:=h;rcases Sv.1 b with rfl | b
   ·exact absurd c d
   ·exact⟨u,b,c⟩
theorem Kt(c:dG i I):∃u∈i.drop I,nB u.s=true:=by
 obtain⟨e,d,b,a⟩:=c;refine⟨i[e],?_,?_⟩
 ·rw[List.mem_iff_getElem?];exact⟨e-I,by rw[Us,show I+(e-I)=e by omega,RQ b]⟩
 ·unfold tS at a;rw[RT,RQ b]at a;exact a
theorem pP(a:dG o b):bq (o++H) b=bq o b:=by
 have c:b<=o.length:=by obtain⟨e,d,f,-⟩:=a;omega
 unfold bq;rw[Th c,yU _ _ (Kt a)]
theorem Ks(f:dG o b):dG (o++H) b:=by
 obtain⟨e,a,c,d⟩:=f;exact⟨e,a,by rw[R9];omega,by rw[fK o H e c];exact d⟩
theorem lH(h:∀j,j<I->z6 j=y0 j):(List.range I).any z6=(List.range I).any y0:=by
 rw[Tu,SQ,SQ];constructor
 ·rintro ⟨j,a,b⟩;exact⟨j,a,by rw[<-h j (Sd.1 a)];exact b⟩
 ·rintro ⟨j,a,b⟩;exact⟨j,a,by rw[h j (Sd.1 a)];exact b⟩
theorem wS{l:List Nat}{q:Nat->Bool}(h:∀j∈l,z6 j=q j):l.find? z6=l.find? q:=by
 induction l with
 | nil=>rfl
 | cons a l c =>
  rw[Vy,Vy,h a (by simp),c (fun j b=>h j (by simp[b]))]
section
variable {T U:List Tk} {S M:List Sm} {n:Nat}
theorem wF(c:n<=S.length)(b:∀j,j<n->((aq S j).k.toList==L.toList)=true->dG T (aq S j).h):jm (T++U) (S++M) L l n zt=jm T S L l n zt:=by
 unfold jm;refine lH (fun j a=>?_);unfold oi;rw[jt S M j (by omega),rL S M j n c];cases h:((aq S j).k.toList==L.toList)
 ·rfl
 ·rw[pP T U _ (b j a h)]
theorem uo(a:iB T S n):ee (T++U) (S++M) w n=ee T S w n:=wF _ w _ a.m (by rw[ou.1];exact a.c)
theorem Ig(a:iB T S n):ik (T++U) (S++M) w n=ik T S w n:=wF _ w _ a.m (by rw[ou.2];exact a.v)
theorem zn(h:g.a<T.length):bN (T++U) g=bN T g:=by
 unfold bN;rw[fK T U g.a h]
theorem tE(c:iB T S n):bt (T++U) (S++M) w n=bt T S w n:=by
 unfold bt
 rw[wS (q:=mz T S w) (fun j b=>by
  have b:=Sd.1 b;have:=c.m;unfold mz;rw[jt S M j (by omega),zn _ (c.a j b)])]
theorem zL(a:iB T S n):jy (T++U) (S++M) w n=jy T S w n:=by
 unfold jy;rw[tE w a,uo w a,wF _ w _ a.m (by rw[ou.2];exact a.v)]
theorem IZ(b:iB T S n)(c:mD T S n):go (T++U) (S++M) w n=go T S w n:=by
 unfold go
 rw[wS (q:=rj T S w n) (fun j a=>by
  have a:=Sd.1 a;have:=b.m;unfold rj;rw[jt S M j (by omega),rL S M j n b.m];cases h:((aq S j).k.toList == [36,102])
  ·rfl
  ·rw[fK T U _ (c j a h)])]
theorem Jv(a:iB T S n):jT (T++U) (S++M) l n zt m=jT T S l n zt m:=by
 unfold jT;rw[zL l a,tE l a,uo l a,Ig l a]
theorem FL(a:iB T S n)(b:mD T S n):g7 (T++U) (S++M) L l n m=g7 T S L l n m:=by
 unfold g7;rw[uo l a,Ig l a,IZ l a b]
theorem Dd(a:iB T S n)(b:mD T S n):mu (T++U) (S++M) L l n m=mu T S L l n m:=by
 unfold mu;rw[Jv l _ m a,FL L l m a b]
theorem zg(a:iB T S n):dq (T++U) (S++M) w n=dq T S w n:=by
 unfold dq;rw[lJ S M n a.m,zL w a]
end
theorem Gw(a:D<=b)(c:b<=o.length):dX (o++H) D b=dX o D b:=by
 unfold dX;rw[Th (by omega),TA (by rw[Tc];omega)]
theorem wB(f:o.length<=100000)(i:Nat)(c:i<o.length)(a:∀j,j<i->a9 o (ab o) j=0):a9 (o++H) (ab (o++H)) i=a9 o (ab o) i:=by
 obtain⟨b,k⟩:=Ps o f i c a;obtain⟨M,d,n⟩:=zK o H;rw[d];generalize ab o=S at *;have g:jh (S++M) i=jh S i:=Gz i S M (fun m l=>by have:=n m l;omega);have p:=Lx S i;unfold a9;rw[g,BG S M _ b.m,fK o H i c];by_cases e:i=kJ S (jh S i)
 ·rw[RY e,RY e,zg _ b]
 ·rw[RU e,RU e,AD o H _ (by omega)];split
  ·rfl
  ·next q =>
   rw[Dd _ _ _ b k,Gw o H _ i (by omega) (by omega)]
theorem rN(b:o.length<=100000)(h:∀j,j<o.length->a9 o (ab o) j=0):∀j,j<o.length->a9 (o++H) (ab (o++H)) j=0:=fun j a=>by
 rw[wB o H b j a (fun q c=>h q (by omega))];exact h j a
def vm(o:Int)(L:List Sm):Int:=L.foldl (fun o s=>aP o s.k) o
theorem yY(c:Int)(k:ByteArray):aP (z7+c) k=aP z7 k+c:=by
 unfold aP;split <;> split <;> omega
theorem Cq(L:List Sm):∀o c,vm (o+c) L=vm o L+c:=by
 induction L with
 | nil=>intro o c;rfl
 | cons s L a =>
  intro o c;show vm (aP (o+c) s.k) L=vm (aP o s.k) L+c;rw[yY,a]
theorem Ip(L:List Sm)(s:Sm):∀o,qW o (L++[s])=(qW o L&&decide (0<=vm o (L++[s]))):=by
 induction L with
 | nil =>
  intro o
  show(if aP o s.k<0 then false else qW (aP o s.k) [])=(qW o []&&decide (0<=aP o s.k))
  simp only[qW];by_cases h:aP o s.k<0
  ·rw[RY h];simp;omega
  ·rw[RU h];simp;omega
 | cons a L b =>
  intro o;rw[Ur,qW,qW];by_cases h:aP o a.k<0
  ·rw[RY h,RY h];rfl
  ·rw[RU h,RU h,b];rfl
theorem EB(c:D<=b):vm 0 ((y.drop D).take (b-D))=bm y b-bm y D:=by
 have e:y.take b=y.take D++(y.drop D).take (b-D):=by
  rw[show b=D+(b-D) by omega,List.take_add];simp
 have a:bm y b=vm (bm y D) ((y.drop D).take (b-D)):=by
  unfold bm vm;rw[e,Uj]
 have:=Cq ((y.drop D).take (b-D)) 0 (bm y D);rw[Int.zero_add]at this;omega
theorem og(c:D<=b)(d:b<y.length):aM y D (b+1)=(aM y D b&&decide (bm y D<=bm y (b+1))):=by
 have e:(y.drop D).take (b+1-D)=(y.drop D).take (b-D)++[y[b]]:=by
  rw[show b+1-D=(b-D)+1 by omega,Ta (by rw[Tc];omega),UW];congr 3;omega
 have a:=EB y D (b+1) (by omega);unfold aM;rw[e]at a ⊢;rw[Ip,a];congr 1;rw[decide_eq_decide];omega
theorem BB:aM y b b=true:=by
 unfold aM;rw[Td,UH,qW]
theorem zZ(n:Nat)(g:b<=n)(i:n<=y.length)(h:aM y b n=true):∀m,b<=m->m<=n->bm y b<=bm y m:=by
 induction n with
 | zero =>
  intro m a d;have e:m=b:=by omega
  rw[e];exact UX _
 | succ n f =>
  intro m a d;by_cases e:b=n+1
  ·have e:m=b:=(by omega);rw[e];exact UX _
  ·rw[og y b n (by omega) (by omega),Sk,Tm]at h;by_cases c:m=n+1
   ·rw[c];exact h.2
   ·exact f (by omega) (by omega) h.1 m a (by omega)
def kB(S:List Sm)(n:Nat):List Nat:=(List.range n).filter (fun j=>aM S j n)
theorem iD(h:zb∈kB x I):zb<I:=Sd.1 (SD.1 h).1
theorem D0(e:b<=y.length):(kB y b).Pairwise (fun a c=>bm y a<=bm y c):=by
 have h:=(UO (n:=b)).filter (fun j=>aM y j b);refine h.imp_of_mem (fun {a c} ha d hab=>?_);have d:=iD d;exact zZ y a b (by omega) e (SD.1 ha).2 c (by omega) (by omega)
theorem FF{f:Nat->Int}(l:List Nat)(h:l.Pairwise (fun a b=>f a<=f b)):l=l.filter (fun j=>decide (f j<=z7))++l.filter (fun j=>!decide (f j<=z7)):=by
 induction l with
 | nil=>rfl
 | cons a l c =>
  obtain⟨g,i⟩:=List.pairwise_cons.1 h;have c:=c i;by_cases d:f a<=z7
  ·rw[Ue (by simpa using d),TR (by simpa using d),Ur,<-c]
  ·have e:l.filter (fun j=>decide (f j<=z7))=[]:=by
    rw[UN];intro b k;have:=g b k;simp;omega
   rw[TR (by simpa using d),Ue (by simpa using d),e];rw[e]at c;rw[UP]at c ⊢;rw[<-c]
theorem fR(h:∀j,j<I->z6 j=y0 j):(List.range I).filter z6=(List.range I).filter y0 :=
 VO (fun j a=>h j (Sd.1 a))
theorem ir:bm (y++[g]) (y.length+1)=aP (bm y y.length) g.k:=by
 rw[vl (y++[g]) y.length (by simp),lJ y [g] _ (RV _)];congr 2;simp
theorem rK:kB (y++[g]) (y.length+1)=(kB y y.length).filter (fun j=>decide (bm y j<=aP (bm y y.length) g.k))++(if 0<=aP 0 g.k then [y.length] else []):=by
 unfold kB;rw[Ty,Tf,VJ];congr 1
 ·refine fR (fun j a=>?_);rw[og (y++[g]) j y.length (by omega) (by simp),rL y [g] j _ (RV _),lJ y [g] j (by omega),ir,VX]
 ·have e:aM (y++[g]) y.length (y.length+1)=decide (0<=aP 0 g.k):=by
   rw[og (y++[g]) y.length y.length (RV _) (by simp),BB,lJ y [g] _ (RV _),ir,TP,decide_eq_decide];have:=yY 0 (bm y y.length) g.k;rw[Int.zero_add]at this;omega
  by_cases h:0<=aP 0 g.k
  ·rw[RY h,Ue (by rw[e];simpa using h)];rfl
  ·rw[RU h,TR (by rw[e];simpa using h)];rfl
theorem Iq(a:I<=x.length)(h:zb∈kB x I):bm x zb<=bm x I:=by
 have b:=iD h;exact zZ x zb I (by omega) a (SD.1 h).2 I (by omega) (RV _)
structure sM(F:Nat->List ByteArray)(S:List Sm)(L:List ByteArray)(B:List Nat):Prop where
 l:L=(kB S S.length).flatMap F
 b:(B.length:Int)=bm S S.length
 o:∀i,i<B.length->B[i]?=some (((kB S S.length).filter (fun j=>decide (bm S j<=(i:Int)))).flatMap F).length
theorem dE{l:List Nat}{G:Nat->List ByteArray}(h:∀j∈l,u j=G j):l.flatMap u=l.flatMap G:=by
 induction l with
 | nil=>rfl
 | cons a l c=>rw[SZ,SZ,h a (by simp),c (fun j b=>h j (by simp[b]))]
theorem rR(b:I<=x.length)(c:bm x I<=z4):(kB x I).filter (fun j=>decide (bm x j<=z4))=kB x I :=
 List.filter_eq_self.2 (fun j a=>by have:=Iq b a;simp;omega)
theorem cC:(y++[g]).length=y.length+1:=by simp
theorem pA(b:I<=x.length)(c:Int):(kB x I).filter (fun j=>decide (bm (x++[z5]) j<=c))=(kB x I).filter (fun j=>decide (bm x j<=c)) :=
 VO (fun j a=>by rw[lJ x [z5] j (by have:=iD a;omega)])
theorem sM.norm(h:sM u x z3 E)(s:Sm)(c:∀o,aP o s.k=o)(d:∀j,j<x.length->C j=u j):sM C (x++[s]) (z3++C x.length) E:=by
 have e:=rK x s;rw[c,c,RY (UX _),rR (RV _) (UX _)]at e;have f:=h.b;refine⟨?_,?_,fun i g=>?_⟩
 ·rw[cC,e,TI,h.l,dE (fun j a=>d j (iD a))];simp
 ·rw[cC,ir,c];exact f
 ·rw[cC,e,Tf,pA (RV _),TR (by rw[lJ x [s] _ (RV _)];simp;omega),Vw,Su,dE (fun j a=>d j (iD (SD.1 a).1))];exact h.o i g
theorem sM.push(h:sM u x z3 E)(s:Sm)(d:∀o,aP o s.k=o+1)(m:∀j,j<x.length->C j=u j)(g:C x.length=[]):sM C (x++[s]) z3 (E++[z3.length]):=by
 have e:=rK x s;rw[d,d,RY (by omega),rR (RV _) (by omega)]at e;have r:=h.b;have f:∀p:Nat->Bool,([x.length].filter p).flatMap C=[]:=fun p=>by
  rw[List.flatMap_eq_nil_iff];intro j c;have:=Se.1 (SD.1 c).1;rw[this];exact g
 refine⟨?_,?_,fun i q=>?_⟩
 ·rw[cC,e,TI,h.l,dE (fun j c=>m j (iD c))];simp[g]
 ·rw[cC,ir,d];simp;omega
 ·rw[cC,e,Tf,pA (RV _),TI,f,Su,dE (fun j c=>m j (iD (SD.1 c).1))];simp only[List.length_append,List.length_cons,List.length_nil]at q;by_cases a:i<E.length
  ·rw[Si a];exact h.o i a
  ·have n:i=E.length:=(by omega);rw[n,Sf (RV _),Td,rR (RV _) (by omega),<-h.l];rfl
theorem sM.pop(h:sM u x z3 (E++[I]))(s:Sm)(d:∀o,aP o s.k=o-1)(g:∀j,j<x.length->C j=u j):sM C (x++[s]) (z3.take I) E:=by
 have e:=rK x s;rw[d,d,RU (by omega),Su]at e;have r:=h.b;simp only[List.length_append,List.length_cons,List.length_nil]at r;have t:bm x x.length-1=E.length:=by omega
 rw[t]at e;have c:=h.o E.length (by simp);rw[Sf (RV _),Td]at c;have c:I=(((kB x x.length).filter (fun j=>decide (bm x j<=E.length))).flatMap u).length:=by simpa using c
 refine⟨?_,?_,fun i v=>?_⟩
 ·rw[cC,e,dE (G:=u) (fun j a=>g j (iD (SD.1 a).1))];have n:=h.l;rw[FF (f:=bm x) (E.length:Int) (kB x x.length) (D0 x _ (RV _)),TI]at n;rw[n,c,TA (RV _),Tr]
 ·rw[cC,ir,d];omega
 ·rw[cC,e,VJ];have p:(kB x x.length).filter (fun j=>decide (bm (x++[s]) j<=(i:Int))&&decide (bm x j<=E.length))=(kB x x.length).filter (fun j=>decide (bm x j<=(i:Int))) :=
   VO (fun j a=>by
    rw[lJ x [s] j (by have:=iD a;omega)];by_cases m:bm x j<=(i:Int)
    ·have q:bm x j<=E.length:=(by omega);simp[m,q]
    ·simp[m])
  rw[p,dE (G:=u) (fun j a=>g j (iD (SD.1 a).1))];have:=h.o i (by simp;omega);rw[Si v]at this;exact this
def DF(T:List Tk)(S:List Sm)(j:Nat):List ByteArray:=if((aq S j).k.toList == [36,118])=true then bq T (aq S j).h else []
def IL(T:List Tk)(S:List Sm)(j:Nat):List ByteArray:=if((aq S j).k.toList == [36,99])=true then bq T (aq S j).h else []
def GD(T:List Tk)(S:List Sm)(j:Nat):List ByteArray:=if((aq S j).k.toList == [36,102])=true then [tS T ((aq S j).h+1)] else []
def Mo(T:List Tk)(S:List Sm)(j:Nat):List ByteArray:=if((bN T (aq S j)).toList == [])=true then [] else [bN T (aq S j)]
theorem oo(F:Nat->List ByteArray)(l:List Nat)(x:ByteArray):aJ (l.flatMap F) x=l.any (fun j=>aJ (F j) x):=by
 unfold aJ;rw[List.any_flatMap]
theorem i8:aJ [] w=false:=rfl
theorem xa(a:List ByteArray)(x:ByteArray):aJ (m++a) x=(aJ m x||aJ a x):=by
 unfold aJ;rw[Wa]
theorem rS:aJ [l] w=(l.toList==w.toList):=by simp[aJ]
theorem u9(q:Nat->Bool):(z0.filter z1).any q=z0.any (fun j=>z1 j&&q j):=by
 rw[List.any_filter]
theorem Ih:ik H y l b=aJ ((kB y b).flatMap (DF H y)) l:=by
 rw[oo];unfold kB;rw[u9];unfold ik jm;refine lH (fun j a=>?_);unfold oi DF;rw[ou.2];cases h:((aq y j).k.toList == [36,118])
 ·rw[RU (by simp),i8];simp
 ·rw[RY rfl];simp[Bool.and_comm]
theorem uq:ee H y l b=aJ ((List.range b).flatMap (IL H y)) l:=by
 rw[oo];unfold ee jm;refine lH (fun j a=>?_);unfold oi IL;rw[ou.1];cases h:((aq y j).k.toList == [36,99])
 ·rw[RU (by simp),i8];simp
 ·rw[RY rfl];simp
theorem Ed:jm H y ⟨#[36,118]⟩ l b false=aJ ((List.range b).flatMap (DF H y)) l:=by
 rw[oo];unfold jm;refine lH (fun j a=>?_);unfold oi DF;rw[ou.2];cases h:((aq y j).k.toList == [36,118])
 ·rw[RU (by simp),i8];simp
 ·rw[RY rfl];simp
theorem N9:(match z0.find? z1 with | some j=>(j:Int) | none=>-1)=-1 ↔ z0.any z1=false:=by
 cases h:z0.find? z1 with
 | none=>simp only[true_iff];rw[UV];rw[Tn]at h;exact h
 | some j =>
  have a:=Uo h;have b:=SU h;have c:z0.any z1=true:=SQ.2 ⟨j,b,a⟩;rw[c];simp only[Bool.true_eq_false,iff_false];intro d;have:(0:Int)<=(j:Int):=by omega
  omega
theorem GI:decide (0<=(match z0.find? z1 with | some j=>(j:Int) | none=>-1))=z0.any z1:=by
 cases h:z0.find? z1 with
 | none =>
  have:=(N9 z0 z1).1 (by rw[h]);rw[this];rfl
 | some j =>
  have a:z0.any z1=true:=SQ.2 ⟨j,SU h,Uo h⟩;rw[a];simp
theorem tF:decide (0<=bt H y l b)=aJ ((List.range b).flatMap (Mo H y)) l:=by
 rw[oo];unfold bt;refine(GI (List.range b) (mz H y l)).trans ?_;refine lH (fun j a=>?_);unfold mz Mo;cases h:((bN H (aq y j)).toList == [])
 ·rw[RU (by simp),rS];simp
 ·rw[RY rfl,i8];simp
theorem I1:decide (0<=go H y l b)=aJ ((kB y b).flatMap (GD H y)) l:=by
 rw[oo];unfold kB;rw[u9];unfold go;refine(GI (List.range b) (rj H y l b)).trans ?_;refine lH (fun j a=>?_);unfold rj GD;cases h:((aq y j).k.toList == [36,102])
 ·rw[RU (by simp),i8];simp
 ·rw[RY rfl,rS];simp[Bool.and_comm]
theorem AQ(d:H.length<=100000)(b:∀j,j<H.length->a9 H (ab H) j=0):iB H (ab H) (ab H).length/\mD H (ab H) (ab H).length:=by
 have p:=dL H;have f:(ab H).length<=H.length:=tI H H.length;generalize ab H=S at *;have c:=fun j (a:j<S.length)=>DL p j a (fun q _ e=>b q (by have:=(p.s j a).2;omega));refine⟨⟨RV _,by omega,d,fun j a=>(c j a).1,fun j a=>(c j a).2.1,fun j a=>?_⟩,fun j a=>(c j a).2.2⟩;have:=(p.s j a).1.lt;have:=(p.s j a).2;omega
structure sH(T:List Tk)(S:List Sm)(d:Db):Prop where
 con:d.Wg=(List.range S.length).flatMap (IL T S)
 var:∀x,aJ d.Wh x=aJ ((List.range S.length).flatMap (DF T S)) x
 act:sM (DF T S) S d.Wn (d.blocks.map (·.1))
 typ:sM (GD T S) S d.Wq (d.blocks.map (·.2))
def j4(T:List Tk)(S:List Sm):List ByteArray:=(List.range S.length).flatMap (Mo T S)
def eU(l:List UInt8)(k:Int):Prop:=(l=[36,99]/\k=7)∨(l=[36,118]/\k=8)∨(l=[36,100]/\k=1)∨(l=[36,102]/\k=2)∨(l=[36,101]/\k=3)∨(l=[36,97]/\k=4)∨(l=[36,112]/\k=5)
theorem eU.c:eU [36,99] 7:=by simp[eU]
theorem eU.v:eU [36,118] 8:=by simp[eU]
theorem eU.d:eU [36,100] 1:=by simp[eU]
theorem eU.f:eU [36,102] 2:=by simp[eU]
theorem eU.e:eU [36,101] 3:=by simp[eU]
theorem eU.a:eU [36,97] 4:=by simp[eU]
theorem eU.p:eU [36,112] 5:=by simp[eU]
def jb(y:ByteArray):Bool:=!(y.toList == [36,61])
def ug(T:List Tk)(d:Db):Prop :=
 (fa T=T.length/\d.kind=0/\d.We=[]/\d.Wi=false/\d.Wm=j4 T (ab T)) ∨
 (fa T+1=T.length/\d.kind=6/\d.We=[]/\d.Wi=false/\d.Wm=j4 T (ab T)++[tS T (fa T)]/\((tS T (fa T)).toList == [])=false/\gW (tS T (fa T)) ⟨#[36]⟩=false) ∨
 ∃(key:ByteArray) (head:Nat) (B:List ByteArray),dQ T (fa T)=(key,head)/\fa T<head/\head<=T.length/\eU key.toList d.kind/\dX T head T.length=B/\d.Wi=aJ B ⟨#[36,61]⟩/\d.We=B.takeWhile jb/\(d.Wi=true->d.kind=5/\d.We≠[]) /\
  d.Wm=j4 T (ab T)++(if(ay key||aF key)=true then [tS T (fa T)] else [])/\((ay key||aF key)=true->((tS T (fa T)).toList == [])=false)
theorem ug.none(a:fa i=i.length)(b:N.kind=0)(c:N.We=[])(d:N.Wi=false)(e:N.Wm=j4 i (ab i)):ug i N:=R4 ⟨a,b,c,d,e⟩
theorem ug.lab(a:fa i+1=i.length)(b:N.kind=6)(c:N.We=[])(d:N.Wi=false)(e:N.Wm=j4 i (ab i)++[tS i (fa i)])(f:((tS i (fa i)).toList == [])=false)(g:gW (tS i (fa i)) ⟨#[36]⟩=false):ug i N:=RZ (R4 ⟨a,b,c,d,e,f,g⟩)
theorem ug.body(c:dQ i (fa i)=(l,b))(d:fa i<b)(e:b<=i.length)(f:eU l.toList N.kind)(g:dX i b i.length=m)(j:N.Wi=aJ m ⟨#[36,61]⟩)(k:N.We=m.takeWhile jb)(n:N.Wi=true->N.kind=5/\N.We≠[])(o:N.Wm=j4 i (ab i)++(if(ay l||aF l)=true then [tS i (fa i)] else []))(a:(ay l||aF l)=true->((tS i (fa i)).toList == [])=false):ug i N:=RZ (RZ ⟨l,b,m,c,d,e,f,g,j,k,n,o,a⟩)
theorem sM.congr(h:sM u x z3 E)(c:∀j,j<x.length->C j=u j):sM C x z3 E :=
 ⟨by rw[dE (G:=u) (fun j a=>c j (iD a))];exact h.l,h.b,fun i d=>by rw[dE (G:=u) (fun j a=>c j (iD (SD.1 a).1))];exact h.o i d⟩
section
variable {T U:List Tk} {S M:List Sm}
theorem po(b:iB T S S.length)(j:Nat)(a:j<S.length):DF (T++U) (S++M) j=DF T S j:=by
 unfold DF;rw[jt S M j a];split
 ·next h=>rw[pP T U _ (b.v j a h)]
 ·rfl
theorem vQ(b:iB T S S.length)(j:Nat)(a:j<S.length):IL (T++U) (S++M) j=IL T S j:=by
 unfold IL;rw[jt S M j a];split
 ·next h=>rw[pP T U _ (b.c j a h)]
 ·rfl
theorem vS(b:mD T S S.length)(j:Nat)(a:j<S.length):GD (T++U) (S++M) j=GD T S j:=by
 unfold GD;rw[jt S M j a];split
 ·next h=>rw[fK T U _ (b j a h)]
 ·rfl
theorem GR(c:iB T S S.length)(j:Nat)(b:j<S.length):Mo (T++U) (S++M) j=Mo T S j:=by
 unfold Mo;rw[jt S M j b,zn _ (c.a j b)]
end
theorem pd(h:∀j,j<I->C j=u j):(List.range I).flatMap C=(List.range I).flatMap u:=dE (fun j a=>h j (Sd.1 a))
theorem fn(h:∀j,j<I->C j=u j):(List.range (I+1)).flatMap C=(List.range I).flatMap u++C I:=by
 rw[Ty,TI,pd h];simp
theorem qJ(b:iB i x x.length):j4 (i++A) x=j4 i x:=by
 unfold j4;exact pd (fun j a=>by have:=GR (U:=A) (M:=[]) b j a;rw[Su]at this;exact this)
theorem uB(b:iB i x x.length):j4 (i++A) (x++[g])=j4 i x++Mo (i++A) (x++[g]) x.length:=by
 unfold j4;rw[cC];exact fn (fun j a=>GR b j a)
theorem sH.same(h:sH i x N)(d:iB i x x.length)(m:mD i x x.length)(e:z2.Wg=N.Wg)(f:z2.Wh=N.Wh)(g:z2.Wn=N.Wn)(k:z2.Wq=N.Wq)(b:z2.blocks=N.blocks):sH (i++A) x z2:=by
 have c:∀j,j<x.length->DF (i++A) x j=DF i x j:=fun j a=>by have:=po (U:=A) (M:=[]) d j a;rw[Su]at this;exact this
 have l:∀j,j<x.length->IL (i++A) x j=IL i x j:=fun j a=>by have:=vQ (U:=A) (M:=[]) d j a;rw[Su]at this;exact this
 have n:∀j,j<x.length->GD (i++A) x j=GD i x j:=fun j a=>by have:=vS (U:=A) (M:=[]) m j a;rw[Su]at this;exact this
 exact⟨by rw[e,pd l];exact h.con,fun o=>by rw[f,pd c];exact h.var o,by rw[g,b];exact h.act.congr c,by rw[k,b];exact h.typ.congr n⟩
theorem kZ:aq (y++[g]) y.length=g:=uP y g
theorem sH.close(h:sH i x N)(c:iB i x x.length)(n:mD i x x.length)(s:Sm)(e:∀o,aP o s.k=o)(f:z2.Wg=N.Wg++IL (i++A) (x++[s]) x.length)(g:∀b,aJ z2.Wh b=(aJ N.Wh b||aJ (DF (i++A) (x++[s]) x.length) b))(l:z2.Wn=N.Wn++DF (i++A) (x++[s]) x.length)(m:z2.Wq=N.Wq++GD (i++A) (x++[s]) x.length)(d:z2.blocks=N.blocks):sH (i++A) (x++[s]) z2 :=
 ⟨by rw[cC,fn (fun j a=>vQ c j a),<-h.con];exact f,fun b=>by rw[cC,fn (fun j a=>po c j a),xa,<-h.var];exact g b,
  by rw[l,d];exact h.act.norm s e (fun j a=>po c j a),by rw[m,d];exact h.typ.norm s e (fun j a=>vS n j a)⟩
theorem BJ(g:H.length<=100000)(a:∀j,j<H.length->a9 H (ab H) j=0):a9 (H++[B]) (ab (H++[B])) H.length =
  if H.length=fa H then dq H (ab H) B.s (ab H).length
  else if H.length<(dQ (H++[B]) (fa H)).2 then(if(ay B.s||aF B.s)=true then 0 else 14)
  else mu H (ab H) (dQ (H++[B]) (fa H)).1 B.s (ab H).length (dX H (dQ (H++[B]) (fa H)).2 H.length):=by
 obtain⟨d,k⟩:=AQ H g a;obtain⟨M,f,l⟩:=zK H [B];have p:=dL H;rw[f,Fa];generalize ab H=S at *;have i:jh (S++M) H.length=S.length:=by
  unfold jh;rw[Gz H.length S M l];exact LG _ S S.length (fun q b=>⟨aq S q,Hz S q b,(p.s q b).2⟩) (fun s c=>by rw[SG (RV _)]at c;cases c)
 unfold a9;rw[i,BG S M _ (RV _),nN];by_cases e:H.length=kJ S S.length
 ·rw[RY e,RY e,zg _ d]
 ·rw[RU e,RU e];split
  ·rfl
  ·next m=>rw[Dd _ _ _ d k,Gw H [B] _ _ (by omega) (RV _)]
theorem Dx(h:sH i x N)(b:N.Wm=j4 i x)(a:ByteArray):jy i x a x.length=dU N a:=by
 unfold jy dU;rw[tF,uq,Ed,<-h.con,<-h.var,b,US];rfl
theorem Kw(h:sH i x N)(b:N.Wm=j4 i x)(a:ByteArray):(decide (0<=bt i x a x.length)||(ee i x a x.length||ik i x a x.length))=eJ N a:=by
 unfold eJ;rw[tF,uq,Ih,<-h.con,<-h.act.l,b,US];rfl
theorem Cd(h:sH i x N):bm x x.length=(N.blocks.length:Int):=by
 have:=h.act.b;rw[Sn]at this;exact this.symm
theorem rP(h:z.toList=r)(o:Int):aP o z=if(r == [36,125])=true then(if(r == [36,123])=true then o+1 else o)-1 else(if(r == [36,123])=true then o+1 else o):=by
 unfold aP;rw[h]
theorem jJ{k:ByteArray}(h:k.toList=r):ay k=((r == [36,97])||(r == [36,112]))/\aF k=((r == [36,102])||(r == [36,101]))/\bY k=((r == [36,46])||(r == [36,123])||(r == [36,125])):=by
 unfold ay aF bY;rw[h];exact⟨rfl,rfl,rfl⟩
theorem FJ(h:z.toList=r):gW z ⟨#[36]⟩=gW ⟨r.toArray⟩ ⟨#[36]⟩:=by
 rw[pZ (x:=z) (l:=r) (by rw[h];simp)]
theorem eU.dep(h:eU z.toList z4):(∀o,aP o z=o)/\gW z ⟨#[36]⟩=true/\bY z=false:=by
 generalize hl:z.toList=l at h;have a:=fun o=>rP hl o;have b:=FJ hl;have c:=(jJ hl).2.2
 (rcases h with ⟨rfl,rfl⟩ | ⟨rfl,rfl⟩ | ⟨rfl,rfl⟩ | ⟨rfl,rfl⟩ | ⟨rfl,rfl⟩ | ⟨rfl,rfl⟩ | ⟨rfl,rfl⟩) <;> exact⟨fun o=>a o,b.trans (by decide +kernel),c⟩
section
variable {T:List Tk} {t:Tk} {d:Db}
theorem CU(b:fa T=T.length)(a:gW t.s ⟨#[36]⟩=true):dQ (T++[t]) (fa T)=(t.s,T.length+1):=by
 unfold dQ;rw[b,nN,a];simp
theorem oq(a:dQ T (fa T)=(z,I))(f:fa T<I)(g:I<=T.length)(d:eU z.toList z4):dQ (T++[t]) (fa T)=(z,I):=by
 rw[<-a];by_cases h:fa T+1<T.length
 ·exact AD T [t] _ h
 ·have e:dQ T (fa T)=(tS T (fa T),fa T+1):=by
   unfold dQ;rw[RY (by simp;right;omega)]
  rw[a]at e;have c:z=tS T (fa T):=congrArg Prod.fst e;have b:=d.dep.2.1;rw[c]at b;unfold dQ;rw[fK T [t] _ (by omega),b];simp
theorem lW(T:List Tk)(h:Nat):dX T h T.length=(T.drop h).map (·.s):=by
 unfold dX;rw[Uk (by rw[Tc];exact RV _)]
theorem Lw(t:Tk)(h:Nat)(a:h<=T.length):dX (T++[t]) h (T++[t]).length=dX T h T.length++[t.s]:=by
 rw[lW,lW,Th a];simp
theorem sV(L:List Tk)(t:Tk)(c:∀u∈L,(u.s.toList == [36,46])=false)(e:(t.s.toList == [36,46])=true):ly (L++[t])=(L.map (·.s)).takeWhile jb:=by
 induction L with
 | nil=>rw[UP,ly,RY (t7 e)];rfl
 | cons a L g =>
  have d:=c a (by simp);rw[Ur,ly,Uf];cases b:(a.s.toList == [36,61])
  ·rw[RU (by unfold nB;rw[d,b];simp),TT (by unfold jb;rw[b];rfl),g (fun u f=>c u (by simp[f]))]
  ·rw[RY (by unfold nB;rw[b];rfl),Um (by unfold jb;rw[b];simp)]
theorem uF(T:List Tk)(h:Nat)(a:fa T<=h):∀u∈T.drop h,bY u.s=false:=by
 intro u c;obtain⟨q,b,e⟩:=Tg c;rw[Tc]at b;have:=(dL T).n (h+q) (by unfold fa at a;omega) (by omega);rw[UW]at e;unfold tS at this;rw[RT,RQ (by omega)]at this;rw[<-e];exact this
theorem L7(h:aJ m ⟨#[36,61]⟩=false):∀y∈m,jb y=true:=by
 intro y a;unfold aJ at h;rw[UV]at h;have:=h y a;have e:(⟨#[36,61]⟩:ByteArray).toList=[36,61]:=by decide +kernel
 rw[e]at this;unfold jb;simpa using this
theorem KH(B:List ByteArray)(h:∀y∈B,jb y=true):B.takeWhile jb=B:=by
 induction B with
 | nil=>rfl
 | cons a B c=>rw[TT (h a (by simp)),c (fun y b=>h y (by simp[b]))]
theorem tA(h:aJ m ⟨#[36,61]⟩=false):m.takeWhile jb=m:=KH m (L7 m h)
theorem Ns(B:List ByteArray)(y:ByteArray)(h:aJ B ⟨#[36,61]⟩=true):(B++[y]).takeWhile jb=B.takeWhile jb:=by
 have e:(⟨#[36,61]⟩:ByteArray).toList=[36,61]:=by decide +kernel
 induction B with
 | nil=>cases h
 | cons a B d =>
  rw[Ur];cases b:(a.toList == [36,61])
  ·have c:aJ B ⟨#[36,61]⟩=true:=by
    unfold aJ at h ⊢;rw[UF,e,b,Ts]at h;rw[e];exact h
   rw[TT (by unfold jb;rw[b];rfl),TT (by unfold jb;rw[b];rfl),d c]
  ·rw[Um (by unfold jb;rw[b];simp),Um (by unfold jb;rw[b];simp)]
end
theorem cm{m:List UInt8}(h:(z.toList==r)=true):(z.toList==m)=(r==m):=by
 have:z.toList=r:=by simpa using h
 rw[this]
theorem dd(h:(z.toList==r)=true):z.toList=r:=by simpa using h
section
variable {T:List Tk} {t:Tk} {d:Db}
theorem mZ(d:fa T=T.length)(c:bY t.s=true):ab (T++[t])=ab T++[⟨fa T,T.length+1,T.length+1,t.s⟩]/\fa (T++[t])=(T++[t]).length:=by
 obtain⟨a,b⟩:=nz T t;rw[RY c,CU d (lg c).1]at a;rw[RY c]at b;exact⟨a,by rw[b];simp⟩
theorem lL(c:bY t.s=false):ab (T++[t])=ab T/\fa (T++[t])=fa T:=by
 obtain⟨a,b⟩:=nz T t;rw[RU (by rw[c];simp)]at a b;exact⟨a,b⟩
theorem Px{S:List Sm}{s:Sm}{U:List Tk}(a:(s.k.toList == [36,118])=false)(b:(s.k.toList == [36,99])=false)(c:(s.k.toList == [36,102])=false):DF U (S++[s]) S.length=[]/\IL U (S++[s]) S.length=[]/\GD U (S++[s]) S.length=[]:=by
 unfold DF IL GD;rw[kZ,a,b,c];exact⟨rfl,rfl,rfl⟩
theorem EK{S:List Sm}{s:Sm}{U:List Tk}(h:(ay s.k||aF s.k)=false):Mo U (S++[s]) S.length=[]:=by
 have e:bN U s=⟨#[]⟩:=by unfold bN;rw[h,RU (by simp)]
 unfold Mo;rw[kZ,e,RY pa]
theorem On(h:(ay z5.k||aF z5.k)=true)(b:((tS i z5.a).toList == [])=false):Mo i (x++[z5]) x.length=[tS i z5.a]:=by
 have e:bN i z5=tS i z5.a:=by unfold bN;rw[h,RY rfl]
 unfold Mo;rw[kZ,e,RU (by rw[b];simp)]
theorem FI(w:iB T (ab T) (ab T).length)(W:mD T (ab T) (ab T).length)(I:sH T (ab T) d)(N:fa T=T.length)(hk:d.kind=0)(G:d.We=[])(B:d.Wi=false)(P:d.Wm=j4 T (ab T))(hx:(t.s.toList == [])=false) :
  dq T (ab T) t.s (ab T).length=(aw d t.s).1/\((aw d t.s).1=0->sH (T++[t]) (ab (T++[t])) (aw d t.s).2/\ug (T++[t]) (aw d t.s).2):=by
 have F:=Cd I;have ac:=Dx I P t.s
 -- a keyword of a statement without a ad
 have H:∀{n:Int} {V:Db},eU t.s.toList n->(ay t.s||aF t.s)=false->V={ d with kind:=n }->sH (T++[t]) (ab (T++[t])) V/\ug (T++[t]) V:=fun {n V} u J e=>by
  obtain⟨y,E⟩:=lL (T:=T) (t:=t) u.dep.2.2;have O:dQ (T++[t]) (fa (T++[t]))=(t.s,T.length+1):=by rw[E];exact CU N u.dep.2.1
  have hB:dX (T++[t]) (T.length+1) (T++[t]).length=[]:=by rw[lW];simp
  subst e;refine⟨by rw[y];exact I.same w W rfl rfl rfl rfl rfl,ug.body t.s (T.length+1) [] O (by rw[E];omega) (by simp) u hB (by rw[i8];exact B) G (fun h=>by rw[B]at h;cases h) ?_ (fun h=>by rw[J]at h;cases h)⟩;rw[y,J,RU (by simp),Su,qJ w];exact P
 cases b:(t.s.toList == [36,123])
 ·cases f:(t.s.toList == [36,125])
  ·cases l:(t.s.toList == [36,99])
   ·cases g:(t.s.toList == [36,118])
    ·cases m:(t.s.toList == [36,100])
     ·cases z:(ay t.s||aF t.s)
      ·have h7:(t.s.toList == [36,102])=false/\(t.s.toList == [36,101])=false/\(t.s.toList == [36,97])=false/\(t.s.toList == [36,112])=false:=by
        unfold ay aF at z;simp only[Bool.or_eq_false_iff]at z;exact⟨z.2.1,z.2.2,z.1.1,z.1.2⟩
       obtain⟨g1,g2,g3,g4⟩:=h7;have k:aw d t.s=bO d t.s:=by
        unfold aw;rw[b,f,l,g,m,g1,g2,g3,g4];simp
       have i:dq T (ab T) t.s (ab T).length=if gW t.s ⟨#[36]⟩=true then 8 else if ia t.s=false then 12 else if dU d t.s=true then 13 else 0:=by
        unfold dq;rw[b,f,l,g,m,z,ac];simp
       rw[k,i,iu];unfold bO;cases k1:dn t.s
       ·cases k2:ia t.s
        ·exact⟨rfl,fun h=>by simp at h⟩
        ·cases k3:dU d t.s
         ·refine⟨rfl,fun _=>?_⟩;have C:bY t.s=false:=by
           cases L:bY t.s
           ·rfl
           ·have:=(lg L).1;rw[iu,k1]at this;cases this
          obtain⟨y,E⟩:=lL (T:=T) (t:=t) C;have Y:tS (T++[t]) (fa (T++[t]))=t.s:=(by rw[E,N,nN]);simp only[Bool.false_eq_true,if_false];exact⟨by rw[y];exact I.same w W rfl rfl rfl rfl rfl,ug.lab (by rw[E,N];simp) rfl G B (by rw[Y,y,qJ w,<-P];rfl) (by rw[Y];exact hx) (by rw[Y,iu];exact k1)⟩
         ·exact⟨rfl,fun h=>by simp at h⟩
       ·exact⟨rfl,fun h=>by simp at h⟩
      ·have k:aw d t.s=(11,d):=by
        unfold aw;rw[b,f,l,g,m];unfold ay aF at z;rw[RU (by simp),RU (by simp),RU (by simp),RU (by simp),RU (by simp),RY];simp only[Bool.or_eq_true]at z;rcases z with (h | h) | (h | h)
        ·exact RZ (RZ (R4 h))
        ·exact RZ (RZ (RZ h))
        ·exact R4 h
        ·exact RZ (R4 h)
       have i:dq T (ab T) t.s (ab T).length=11:=by
        unfold dq;rw[b,f,l,g,m,z];simp
       rw[k,i];exact⟨rfl,fun h=>by cases h⟩
     ·have u:=eU.d;rw[<-dd m]at u;have k:aw d t.s=(0,{ d with kind:=1 }):=by
       unfold aw;rw[b,f,l,g,m];simp
      have i:dq T (ab T) t.s (ab T).length=0:=by
       unfold dq;rw[m];simp
      rw[k,i];exact⟨rfl,fun _=>H u (by rw[(jJ (dd m)).1,(jJ (dd m)).2.1];decide) rfl⟩
    ·have u:=eU.v;rw[<-dd g]at u;have k:aw d t.s=(0,{ d with kind:=8 }):=by
      unfold aw;rw[b,f,l,g];simp
     have i:dq T (ab T) t.s (ab T).length=0:=by
      unfold dq;rw[g];simp
     rw[k,i];exact⟨rfl,fun _=>H u (by rw[(jJ (dd g)).1,(jJ (dd g)).2.1];decide) rfl⟩
   ·have u:=eU.c;rw[<-dd l]at u;have g:(t.s.toList == [36,118])=false:=by rw[cm l];decide
    have m:(t.s.toList == [36,100])=false:=(by rw[cm l];decide);by_cases A:0<d.blocks.length
    ·have k:aw d t.s=(10,d):=by
      unfold aw;rw[b,f,l];simp[A]
     have i:dq T (ab T) t.s (ab T).length=10:=by
      unfold dq;rw[b,f,l,g,m,F,TH (show(0:Int)<(d.blocks.length:Int) by omega)];simp
     rw[k,i];exact⟨rfl,fun h=>by cases h⟩
    ·have k:aw d t.s=(0,{ d with kind:=7 }):=by
      unfold aw;rw[b,f,l,RU (by simp),RU (by simp),RY rfl,RU A]
     have i:dq T (ab T) t.s (ab T).length=0:=by
      unfold dq;rw[b,f,l,g,m,F,TF (show ¬(0:Int)<(d.blocks.length:Int) by omega)];simp
     rw[k,i];exact⟨rfl,fun _=>H u (by rw[(jJ (dd l)).1,(jJ (dd l)).2.1];decide) rfl⟩
  ·have g:(t.s.toList == [36,118])=false:=(by rw[cm f];decide);have m:(t.s.toList == [36,100])=false:=(by rw[cm f];decide);have L:bY t.s=true:=(by rw[(jJ (dd f)).2.2];decide);have k:aw d t.s=(match d.blocks.getLast? with | none=>(9,d) | some p=>(0,cI d p)):=by
    unfold aw;rw[b,f,RU (by simp),RY rfl];rfl
   cases A:d.blocks.getLast? with
   | none =>
    have K:d.blocks.length=0:=(by rw[List.getLast?_eq_none_iff]at A;rw[A];rfl);have i:dq T (ab T) t.s (ab T).length=9:=by
     unfold dq;rw[b,f,g,m,F,K];simp
    rw[k,i,A];exact⟨rfl,fun h=>by cases h⟩
   | some q =>
    have C:d.blocks≠[]:=fun e=>by rw[e]at A;cases A
    have Z:d.blocks=d.blocks.dropLast++[q]:=by
     have:=UQ C;rw[Uu C]at A;cases A
     exact this.symm
    have K:0<d.blocks.length:=U5.2 C;have i:dq T (ab T) t.s (ab T).length=0:=by
     unfold dq;rw[b,f,g,m,F,show((d.blocks.length:Int)==0)=false by simp;omega];simp
    rw[k,i,A];refine⟨rfl,fun _=>?_⟩;obtain⟨y,E⟩:=mZ (T:=T) (t:=t) N L;have Q:∀o,aP o t.s=o-1:=fun o=>by rw[rP (dd f)];rfl
    obtain⟨X,n2,n3⟩:=Px (S:=ab T) (s:=⟨fa T,T.length+1,T.length+1,t.s⟩) (U:=T++[t]) g (by show(t.s.toList==_)=false;rw[cm f];decide) (by show(t.s.toList==_)=false;rw[cm f];decide);have hn:=EK (S:=ab T) (s:=⟨fa T,T.length+1,T.length+1,t.s⟩) (U:=T++[t]) (by show(ay t.s||aF t.s)=false;rw[(jJ (dd f)).1,(jJ (dd f)).2.1];decide);have J:=I.act;have hy:=I.typ;rw[Z,SF]at J hy;have M:(cI d q).Wg=d.Wg/\(cI d q).Wh=d.Wh/\(cI d q).Wn=d.Wn.take q.1/\(cI d q).Wq=d.Wq.take q.2/\(cI d q).blocks=d.blocks.dropLast/\(cI d q).kind=d.kind/\(cI d q).We=d.We/\(cI d q).Wi=d.Wi/\(cI d q).Wm=d.Wm:=by
     unfold cI de;split <;> exact⟨rfl,rfl,rfl,rfl,rfl,rfl,rfl,rfl,rfl⟩
    obtain⟨d1,d2,d3,d4,d5,d6,d7,d8,d9⟩:=M;simp only;rw[y];refine⟨⟨?_,fun x=>?_,?_,?_⟩,ug.none E (by rw[d6];exact hk) (by rw[d7];exact G) (by rw[d8];exact B) ?_⟩
    ·rw[d1,cC,fn (fun j r=>vQ w j r),n2,Su];exact I.con
    ·rw[d2,cC,fn (fun j r=>po w j r),X,Su];exact I.var x
    ·rw[d3,d5];exact J.pop ⟨fa T,T.length+1,T.length+1,t.s⟩ Q (fun j r=>po w j r)
    ·rw[d4,d5];exact hy.pop ⟨fa T,T.length+1,T.length+1,t.s⟩ Q (fun j r=>vS W j r)
    ·rw[d9,y,uB _ w,hn,Su];exact P
 ·have g:(t.s.toList == [36,118])=false:=by rw[cm b];decide
  have L:bY t.s=true:=by rw[(jJ (dd b)).2.2];decide
  have k:aw d t.s=(0,{ d with blocks:=d.blocks++[(d.Wn.length,d.Wq.length)],rbl:=d.rbl++[d.Wv.length] }):=by
   unfold aw;rw[b,RY rfl]
  have i:dq T (ab T) t.s (ab T).length=0:=by
   unfold dq;rw[b];simp
  rw[k,i];refine⟨rfl,fun _=>?_⟩;obtain⟨y,E⟩:=mZ (T:=T) (t:=t) N L;have Q:∀o,aP o t.s=o+1:=fun o=>by rw[rP (dd b)];rfl
  obtain⟨X,n2,n3⟩:=Px (S:=ab T) (s:=⟨fa T,T.length+1,T.length+1,t.s⟩) (U:=T++[t]) g (by show(t.s.toList==_)=false;rw[cm b];decide) (by show(t.s.toList==_)=false;rw[cm b];decide);have hn:=EK (S:=ab T) (s:=⟨fa T,T.length+1,T.length+1,t.s⟩) (U:=T++[t]) (by show(ay t.s||aF t.s)=false;rw[(jJ (dd b)).1,(jJ (dd b)).2.1];decide);simp only;rw[y];refine⟨⟨?_,fun x=>?_,?_,?_⟩,ug.none E hk G B ?_⟩
  ·rw[cC,fn (fun j r=>vQ w j r),n2,Su];exact I.con
  ·rw[cC,fn (fun j r=>po w j r),X,Su];exact I.var x
  ·simp only[List.map_append,List.map_cons,List.map_nil];exact I.act.push ⟨fa T,T.length+1,T.length+1,t.s⟩ Q (fun j r=>po w j r) X
  ·simp only[List.map_append,List.map_cons,List.map_nil];exact I.typ.push ⟨fa T,T.length+1,T.length+1,t.s⟩ Q (fun j r=>vS W j r) n3
  ·rw[y,uB _ w,hn,Su];exact P
theorem Nh(z:iB T (ab T) (ab T).length)(A:mD T (ab T) (ab T).length)(I:sH T (ab T) d)(y:fa T+1=T.length)(v:d.We=[])(k:d.Wi=false)(D:d.Wm=j4 T (ab T)++[tS T (fa T)])(B:((tS T (fa T)).toList == [])=false)(u:gW (tS T (fa T)) ⟨#[36]⟩=false) :
  dQ (T++[t]) (fa T)=(t.s,T.length+1)/\(if(ay t.s||aF t.s)=true then(0:Int) else 14)=(aI d t.s).1/\((aI d t.s).1=0->sH (T++[t]) (ab (T++[t])) (aI d t.s).2/\ug (T++[t]) (aI d t.s).2):=by
 have i:dQ (T++[t]) (fa T)=(t.s,T.length+1):=by
  unfold dQ;rw[fK T [t] _ (by omega),u,RU (by simp;omega),y,nN,<-y]
 have g:∀{n:Int},eU t.s.toList n->(ay t.s||aF t.s)=true->sH (T++[t]) (ab (T++[t])) { d with kind:=n }/\ug (T++[t]) { d with kind:=n }:=fun {n} c b=>by
  obtain⟨w,l⟩:=lL (T:=T) (t:=t) c.dep.2.2;have C:dX (T++[t]) (T.length+1) (T++[t]).length=[]:=by rw[lW];simp
  have x:tS (T++[t]) (fa (T++[t]))=tS T (fa T):=by rw[l,fK T [t] _ (by omega)]
  refine⟨by rw[w];exact I.same z A rfl rfl rfl rfl rfl,ug.body t.s (T.length+1) [] (by rw[l];exact i) (by rw[l];omega) (by simp) c C (by rw[i8];exact k) v (fun h=>by rw[show({ d with kind:=n }:Db).Wi=d.Wi from rfl,k]at h;cases h) ?_ (fun _=>by rw[x];exact B)⟩;rw[w,b,RY rfl,qJ z,x];exact D
 refine⟨i,?_⟩;unfold aI;cases m:(t.s.toList == [36,102])
 ·cases o:(t.s.toList == [36,101])
  ·cases q:(t.s.toList == [36,97])
   ·cases r:(t.s.toList == [36,112])
    ·have b:(ay t.s||aF t.s)=false:=(by unfold ay aF;rw[m,o,q,r];rfl);rw[b];exact⟨rfl,fun h=>by simp at h⟩
    ·have b:(ay t.s||aF t.s)=true:=(by unfold ay aF;rw[r];simp);have c:=eU.p;rw[<-dd r]at c;rw[b];exact⟨rfl,fun _=>g c b⟩
   ·have b:(ay t.s||aF t.s)=true:=(by unfold ay aF;rw[q];simp);have c:=eU.a;rw[<-dd q]at c;rw[b];exact⟨rfl,fun _=>g c b⟩
  ·have b:(ay t.s||aF t.s)=true:=(by unfold ay aF;rw[o];simp);have c:=eU.e;rw[<-dd o]at c;rw[b];exact⟨rfl,fun _=>g c b⟩
 ·have b:(ay t.s||aF t.s)=true:=by unfold ay aF;rw[m];simp
  have c:=eU.f;rw[<-dd m]at c;rw[b];exact⟨rfl,fun _=>g c b⟩
end
end Go.Proofs.YtnbhnocdhbcbcaaGreat
