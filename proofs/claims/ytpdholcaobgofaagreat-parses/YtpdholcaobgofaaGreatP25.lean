import Derived.Test.YtpdholcaobgofaaGreatP16
namespace Go.Proofs.YtpdholcaobgofaaGreat
open Go.RowKit Tryz
open Value IntKind Ending
set_option maxHeartbeats 0
variable{z4:Int}{i A:List Tk}{I z8:Nat}{z6 zt:Nat->Bool}{x:List Sm}{u C:Nat->Xs}{z5:Sm}{z3:Xs}{E:Xu}{N z2:Db}{r:List UInt8}{z:Xr}(L:Xr)(o H:List Tk)(F y:List Sm)(D:Nat)(z7:Int)(z0:Xu)(l:Xr)(b:Nat)(zf:Bool)(m:Xs)(w:Xr)(z1:Nat->Bool)(B:Tk)(g:Sm)
def nG(nm d:Xr)(i:vN):Tk:=⟨i.text,i.ZbG,nm,bb d i.pos,bN d i.pos⟩
def WG(nm d:Xr):Nat->Nat->List Tk
 | 0,_=>[]
 | f+1,k=>nG nm d (bQ d k).1 :: (if aQ (bQ d k).1=true then WG nm d f (bQ d k).2 else [])
def pA(nm d:Xr)(k:Nat):List Tk:=WG nm d (d.size-k+1) k
theorem Uk(f k:Nat)(a:k<=w.size)(b:w.size-k+1<=f):WG l w f k=pA l w k:=by
 unfold pA
 suffices h:∀f g k,k<=w.size->w.size-k+1<=f->w.size-k+1<=g->WG l w f k=WG l w g k from h _ _ _ a b (Xy _)
 clear b a f k;intro f
 induction f with
 | zero=>intro g k _ h;omega
 | succ f e =>
  intro g k a b i;cases g with
  | zero=>omega
  | succ g =>
   rw[WG,WG];split
   ·next h =>
    have c:=iQ w k a;have d:=c.2.2 h;rw[e g _ c.2.1 (by omega) (by omega)]
   ·rfl
theorem nz(c:b<=l.size)(h:aQ (bQ l b).1=true):pA L l b=nG L l (bQ l b).1 :: pA L l (bQ l b).2:=by
 have a:=iQ l b c;have d:=a.2.2 h
 conv=>lhs;unfold pA
 rw[WG,XA h,Uk L l _ _ a.2.1 (by omega)]
theorem lN(h:aQ (bQ l b).1=false):pA L l b=[nG L l (bQ l b).1]:=by
 unfold pA;rw[WG,Xz (by simp[h])]
theorem KZ(h:b<l.size)(a:dD (aL l b)=true):bQ l b=bQ l (b+1):=by
 unfold bQ;rw[M5 l b h a]
theorem yP(h:b<l.size)(c:dD (aL l b)=true):pA L l b=pA L l (b+1):=by
 have e:=KZ l b h c;cases a:aQ (bQ l b).1
 ·rw[lN L l b a,lN L l (b+1) (by rw[<-e];exact a),e]
 ·rw[nz L l b (by omega) a,nz L l (b+1) (by omega) (by rw[<-e];exact a),e]
theorem Jj(n:Nat):∀a,(∀j,a<=j->j<a+n->j<w.size/\dD (aL w j)=false/\gG (aL w j)=true)->dw w a=dw w (a+n):=by
 induction n with
 | zero=>intro a _;rfl
 | succ n c =>
  intro a h;have b:=h a (by omega) (by omega);rw[Nm w a b.1 b.2.1 b.2.2,c (a+1) (fun j d e=>h j (by omega) (by omega))];congr 1;omega
theorem JG(h:uw z4=false)(a:dD z4=false):gG z4=true:=by
 unfold uw at h;rw[a]at h;simpa using h
theorem IF(a:D<b)(i:b<=L.size)(c:∀j,D<=j->j<b->dD (aL L j)=false/\gG (aL L j)=true)(f:b<L.size->dD (aL L b)=true):bQ L D=(⟨L.extract D b,0,false,D⟩,b):=by
 have d:=Jj L (b-D) D (fun j e g=>⟨by omega,c j e (by omega)⟩);rw[show D+(b-D)=b by omega]at d;refine Ds L D D b (wV L D (fun h=>?_)).symm d.symm (fun h=>?_) a
 ·rw[(c D (Xy _) a).1]at h;simp at h
 ·rw[f h.1]at h;simp at h
theorem qU(i:Nat):∀j,dU w i<=j->j<i->dD (aL w j)=false:=by
 induction i with
 | zero=>intro j _ h;omega
 | succ i c =>
  intro j a d;rw[dU]at a;split at a
  ·omega
  ·next b =>
   by_cases e:j=i
   ·rw[e];simpa using b
   ·exact c j a (by omega)
theorem BH(i:Nat)(k:i<=w.size)(f:∀j,j<i->uw (aL w j)=false):pA l w 0=kF l w i++pA l w (dU w i):=by
 induction i with
 | zero=>rfl
 | succ i b =>
  have b:=b (by omega) (fun j m=>f j (by omega));rw[kF,dU];cases a:dD (aL w i)
  ·rw[Xz (by simp),Xz (by simp)];exact b
  ·rw[XA rfl,XA rfl];have n:=qV w i;unfold kG;split
   ·next e =>
    rw[b,e,yP l w i (by omega) a]
   ·next e =>
    have g:=IF w (dU w i) i (by omega) (by omega) (fun j c d=>⟨qU w i j c d,JG (f j (by omega)) (qU w i j c d)⟩) (fun _=>a);rw[b,nz l w (dU w i) (by omega) (by rw[g];rfl),g,<-yP l w i (by omega) a];simp[nG,ou]
theorem LQ:jE l w=pA l w 0:=by
 unfold jE;cases d:ln w with
 | some i =>
  unfold ln at d;rw[Y3]at d;obtain⟨b,c,r⟩:=d;have c:=XI.1 c;have f:∀j,j<i->uw (aL w j)=false:=fun j m=>by simpa using r j m
  have p:=qV w i;have g:∀j,dU w i<=j->j<dU w i+(i-dU w i)->j<w.size/\dD (aL w j)=false/\gG (aL w j)=true:=fun j b c=>⟨by omega,qU w i j b (by omega),JG (f j (by omega)) (qU w i j b (by omega))⟩
  have n:gG (aL w i)=false/\dD (aL w i)=false:=by
   unfold uw at b;simpa using b
  have q:=Jj w (i-dU w i) (dU w i) g;rw[show dU w i+(i-dU w i)=i by omega]at q
  have o:dU w i=skip w (dU w i):=(wV w _ (fun h=>by
   by_cases e:dU w i=i
   ·rw[e,n.2]at h;simp at h
   ·rw[(g (dU w i) (Xy _) (by omega)).2.1]at h;simp at h)).symm
  have k:=ID w (dU w i) (dU w i) i o q.symm c n.2 n.1;simp only;rw[BH l w i (by omega) f,lN l w (dU w i) (by rw[k];rfl),k];simp[nG,ou]
 | none =>
  have f:∀j,j<w.size->uw (aL w j)=false:=fun j m=>by
   unfold ln at d;rw[YD]at d;simpa using d j (XI.2 m)
  have p:=qV w w.size;have a:bQ w w.size=(⟨⟨#[]⟩,0,true,w.size⟩,w.size):=IE w w.size w.size w.size (wV w _ (fun h=>by omega)).symm rfl (fun h=>by omega) (Xy _);simp only;rw[BH l w w.size (Xy _) f];unfold kG;split
  ·next e =>
   rw[e,lN l w w.size (by rw[a];rfl),a];simp[nG,ou]
  ·next e =>
   have k:=IF w (dU w w.size) w.size (by omega) (Xy _) (fun j b c=>⟨qU w _ j b c,JG (f j c) (qU w _ j b c)⟩) (fun h=>by omega);rw[nz l w (dU w w.size) p (by rw[k];rfl),k,lN l w w.size (by rw[a];rfl),a];simp[nG,ou]
def Wy(nm d:Xr):Nat->Nat->List Tk
 | 0,_=>[]
 | f+1,k=>nG nm d (aF d k).1 :: (if aQ (aF d k).1=true then Wy nm d f (aF d k).2 else [])
def nW(nm d:Xr)(k:Nat):List Tk:=Wy nm d (d.size-k+1) k
theorem TP(f k:Nat)(a:k<=w.size)(b:w.size-k+1<=f):Wy l w f k=nW l w k:=by
 unfold nW
 suffices h:∀f g k,k<=w.size->w.size-k+1<=f->w.size-k+1<=g->Wy l w f k=Wy l w g k from h _ _ _ a b (Xy _)
 clear b a f k;intro f
 induction f with
 | zero=>intro g k _ h;omega
 | succ f e =>
  intro g k a b i;cases g with
  | zero=>omega
  | succ g =>
   rw[Wy,Wy];split
   ·next h =>
    have c:=gU w k a;have d:=c.2.2 h;rw[e g _ c.2.1 (by omega) (by omega)]
   ·rfl
theorem lM(c:b<=l.size)(h:aQ (aF l b).1=true):nW L l b=nG L l (aF l b).1 :: nW L l (aF l b).2:=by
 have a:=gU l b c;have d:=a.2.2 h
 conv=>lhs;unfold nW
 rw[Wy,XA h,TP L l _ _ a.2.1 (by omega)]
theorem lL(h:aQ (aF l b).1=false):nW L l b=[nG L l (aF l b).1]:=by
 unfold nW;rw[Wy,Xz (by simp[h])]
theorem Lu(j:Nat)(d:b<=l.size)(c:j<=l.size)(h:aF l b=aF l j):nW L l b=nW L l j:=by
 cases a:aQ (aF l b).1
 ·rw[lL L l b a,lL L l j (by rw[<-h];exact a),h]
 ·rw[lM L l b d a,lM L l j c (by rw[<-h];exact a),h]
theorem Ng(c:UInt8):jC w ⟨#[36,c]⟩=(List.range w.size).any (fun i=>decide (1<=i)&&(aL w (i-1)==36)&&(aL w i==(c.toNat:Int))):=by
 have d:(⟨#[36,c]⟩:Xr).size=2:=rfl;have b:∀i,i+2<=w.size->(vH w ⟨#[36,c]⟩ i=((aL w i==36)&&(aL w (i+1)==(c.toNat:Int)))):=fun i a=>by
  have e:(w.extract i (i+2)).toList=[w[i]'(by omega),w[i+1]'(by omega)]:=by
   apply ZaT
   ·rw[YK];simp;omega
   ·intro n m k;simp only[List.length_cons,List.length_nil]at k;have l:n=0∨n=1:=by omega
    simp only[ByteArray.toList_eq,ByteArray.data_extract,Array.getElem_toList,Array.getElem_extract];rcases l with rfl | rfl <;> rfl
  unfold vH;rw[d,e,cw w i (by omega),cw w (i+1) (by omega)];have j:(⟨#[36,c]⟩:Xr).toList=[36,c]:=by rw[YK]
  rw[j];have f:∀x:UInt8,((x.toNat:Int)==36)=(x==36):=fun x=>by
   rw[Ze];simp only[beq_iff_eq];constructor
   ·intro h;exact UInt8.toNat_inj.1 (by rw[show x.toNat=36 by omega];rfl)
   ·rintro rfl;rfl
  have g:∀x:UInt8,((x.toNat:Int)==(c.toNat:Int))=(x==c):=fun x=>by
   rw[Ze];simp only[beq_iff_eq];constructor
   ·intro h;exact UInt8.toNat_inj.1 (by omega)
   ·rintro rfl;rfl
  rw[f,g];simp[Bool.beq_eq_decide_eq,Bool.decide_and]
 unfold jC;rw[d,Ze,Yu,Yu];constructor
 ·rintro ⟨i,a,h⟩;have a:=XI.1 a;rw[XU,Y1]at h;rw[b i h.1]at h;exact⟨i+1,XI.2 (by omega),by rw[Za,XU,XU,Y1];rw[XU]at h;exact⟨⟨by omega,h.2.1⟩,h.2.2⟩⟩
 ·rintro ⟨i,a,h⟩;have a:=XI.1 a;rw[XU,XU,Y1]at h;refine⟨i-1,XI.2 (by omega),?_⟩;rw[XU,Y1,b (i-1) (by omega),XU,show i-1+1=i by omega];exact⟨by omega,h.1.2,h.2⟩
theorem yn:l8 w=(jC w ⟨#[36,40]⟩||jC w ⟨#[36,41]⟩):=by
 rw[Ng,Ng,Ze,Yo];unfold l8;simp only[List.any_eq_true,Bool.and_eq_true,Bool.or_eq_true];constructor
 ·rintro ⟨i,c,b,a | a⟩
  ·exact XQ ⟨i,c,b,a⟩
  ·exact XK ⟨i,c,b,a⟩
 ·rintro (⟨i,c,b,a⟩ | ⟨i,c,b,a⟩)
  ·exact⟨i,c,b,XQ a⟩
  ·exact⟨i,c,b,XK a⟩
theorem jx:jC w ⟨#[36]⟩=dO w:=by
 have b:(⟨#[36]⟩:Xr).size=1:=rfl;have a:∀i,i+1<=w.size->(vH w ⟨#[36]⟩ i=(aL w i==36)):=fun i c=>by
  have e:(w.extract i (i+1)).toList=[w[i]'(by omega)]:=by
   apply ZaT
   ·rw[YK];simp;omega
   ·intro n j f;simp only[List.length_cons,List.length_nil]at f;have g:n=0:=by omega
    simp only[ByteArray.toList_eq,ByteArray.data_extract,Array.getElem_toList,Array.getElem_extract];subst g;rfl
  unfold vH;rw[b,e,cw w i (by omega)];have d:(⟨#[36]⟩:Xr).toList=[36]:=by rw[YK]
  rw[d,Ze];simp only[beq_iff_eq,List.cons.injEq,and_true];constructor
  ·intro h;rw[h];rfl
  ·intro h;exact UInt8.toNat_inj.1 (by rw[show(w[i]'(by omega)).toNat=36 by omega];rfl)
 unfold jC dO;rw[b,Ze,Yu,Yu];constructor
 ·rintro ⟨i,c,h⟩;rw[XU,Y1]at h;rw[a i h.1]at h;exact⟨i,XI.2 (by omega),h.2⟩
 ·rintro ⟨i,c,h⟩;have c:=XI.1 c;exact⟨i,XI.2 (by omega),by rw[XU,Y1,a i (by omega)];exact⟨by omega,h⟩⟩
theorem wT(c:b<=l.size):(aQ (bQ l b).1=true->((bQ l b).1.text.toList == [])=false/\(bQ l b).1.ZbG=0)/\(aQ (bQ l b).1=false->(bQ l b).1.text=⟨#[]⟩/\((bQ l b).1.ZbC=true->(bQ l b).1.ZbG=0)):=by
 have a:=Ff l b c;have d:=vJ l (skip l b) a.2;unfold bQ;simp only;split
 ·exact⟨fun h=>by simp[aQ]at h,fun _=>⟨rfl,fun h=>by cases h⟩⟩
 ·split
  ·exact⟨fun h=>by simp[aQ]at h,fun _=>⟨rfl,fun _=>rfl⟩⟩
  ·next f g =>
   refine⟨fun _=>⟨?_,rfl⟩,fun h=>by simp[aQ]at h⟩;have i:(l.extract (skip l b) (dw l (skip l b))).size=dw l (skip l b)-skip l b:=by
    rw[ZW];omega
   cases e:((l.extract (skip l b) (dw l (skip l b))).toList == [])
   ·rfl
   ·have e:(l.extract (skip l b) (dw l (skip l b))).toList=[]:=(by simpa using e);have:=congrArg List.length e;rw[YK]at this;have j:dw l (skip l b)-skip l b=0∨l.size-skip l b=0:=(by simpa using this);omega
theorem QP(f:Nat):∀k,k<=w.size->w.size-k+1<=f ->
  cC true (pA l w k)=(if aQ (bt w k).1=true then cC false (pA l w (bt w k).2) else [nG l w (bt w k).1]):=by
 induction f with
 | zero=>intro k _ h;omega
 | succ f o =>
  intro k i r;have j:=iQ w k i;obtain⟨p,q⟩:=wT w k i;cases a:aQ (bQ w k).1
  ·obtain⟨d,e⟩:=q a;rw[lN l w k a];cases b:(bQ w k).1.ZbC
   ·have n:((bQ w k).1.ZbG==0)=false:=by
     unfold aQ at a;rw[b]at a;simpa using a
    rw[yp w k a b,a,Xz (by simp),cC,XA (by exact n)];rw[cC]
   ·rw[v9 w k a b,Xz (by simp[aQ]),cC,Xz (by simp[nG,e b]),Xz (by simp[nG,Jp,d]),XA (by simp[nG,Jp,d]),cC];rfl
  ·obtain⟨d,e⟩:=p a;have m:=j.2.2 a;rw[nz l w k i a];cases c:((bQ w k).1.text.toList == [36,41])
   ·cases g:l8 (bQ w k).1.text
    ·rw[zX w k i a c g,cC,Xz (by simp[nG,e]),Xz (by simp only[nG,Jp];rw[c];simp),Xz (by simp only[nG,Jp];rw[d];simp),Xz (by rw[<-yn];simp only[nG];rw[g];simp)];exact o _ j.2.1 (by omega)
    ·rw[vZ w k a c g,Xz (by simp[aQ]),cC,Xz (by simp[nG,e]),Xz (by simp only[nG,Jp];rw[c];simp),Xz (by simp only[nG,Jp];rw[d];simp),XA (by rw[<-yn];exact g)];rfl
   ·rw[uE w k a c,XA a,cC,Xz (by simp[nG,e]),XA (by simp only[nG,Jp];exact c)]
theorem ND(f:Nat):∀k,k<=w.size->w.size-k+1<=f->cC false (pA l w k)=nW l w k:=by
 induction f with
 | zero=>intro k _ h;omega
 | succ f j =>
  intro k d q;have i:=iQ w k d;obtain⟨r,o⟩:=wT w k d;cases b:aQ (bQ w k).1
  ·obtain⟨m,p⟩:=o b;have a:=vq w k (XQ b);rw[lN l w k b,lL l w k (by rw[a];exact b),a,cC,Xz (by simp[nG,Jp,m]),cC]
  ·have n:=i.2.2 b;rw[nz l w k d b];cases e:((bQ w k).1.text.toList == [36,40])
   ·have a:=vq w k (XK e);rw[lM l w k d (by rw[a];exact b),a,cC,Xz (by simp only[nG,Jp];rw[e];simp),j _ i.2.1 (by omega)]
   ·have g:=kt w (bQ w k).2 i.2.1;rw[cC,XA (by simp only[nG,Jp];exact e),QP l w _ _ i.2.1 (Xy _)];cases c:aQ (bt w (bQ w k).2).1
    ·have a:=yC w k b e c;rw[Xz (by simp),lL l w k (by rw[a];exact c),a]
    ·have a:=ML w k d b e c;rw[XA rfl,j _ g.2 (by omega)];exact(Lu l w k _ d g.2 a).symm
theorem DF(a:Fs)(k:Nat):uN a k=nW (aI a k) (ak a k) 0:=by
 unfold uN;rw[LQ];exact ND _ _ _ 0 (XX _) (Xy _)
theorem gI(h:b<o.length):tS (o++H) b=tS o b:=by
 unfold tS;rw[Xw,Xw,XP h]
theorem pW:tS (H++[B]) H.length=B.s:=by
 unfold tS;rw[Xw,XO (Xy _),YA];rfl
theorem EE(h:b+1<o.length):eQ (o++H) b=eQ o b:=by
 unfold eQ;rw[gI o H b (by omega),gI o H (b+1) h,XC];have a:decide (o.length+H.length<=b+1)=false:=by simp;omega
 have c:decide (o.length<=b+1)=false:=by simp;omega
 rw[a,c]
theorem Ok(d:D<=b)(c:b<o.length)(a:cD (tS o b)=true):eQ (o++H) D=eQ o D:=by
 by_cases e:D=b
 ·subst e;unfold eQ;rw[gI o H D c,(mx a).1];simp
 ·exact EE o H D (by omega)
theorem AG(i:Nat)(c:i<=o.length):fR (o++H) i=fR o i:=by
 induction i with
 | zero=>rfl
 | succ i b =>
  rw[fR,fR,b (by omega),gI o H i (by omega)];cases a:cD (tS o i)
  ·rfl
  ·rw[Ok o H _ i (So o i) (by omega) a]
theorem Kr(k:Nat):∃M,(fR H (b+k)).1=(fR H b).1++M/\∀m∈M,b<m.z:=by
 induction k with
 | zero=>exact⟨[],by simp,by simp⟩
 | succ k e =>
  obtain⟨M,a,c⟩:=e;rw[show b+(k+1)=(b+k)+1 by omega,fR];split
  ·refine⟨M++[⟨(fR H (b+k)).2,b+k+1,(eQ H (fR H (b+k)).2).2,(eQ H (fR H (b+k)).2).1⟩],by simp only[a,List.append_assoc],fun m d=>?_⟩;rcases X9.1 d with h | h
   ·exact c m h
   ·rw[XH.1 h];show b<b+k+1;omega
  ·exact⟨M,a,c⟩
theorem DD:∃M,aj (o++H)=aj o++M/\∀m∈M,o.length<m.z:=by
 obtain⟨M,a,b⟩:=Kr (o++H) o.length H.length;refine⟨M,?_,b⟩;unfold aj;rw[XC,a,AG o H _ (Xy _)]
def fL(T:List Tk):Nat:=(fR T T.length).2
theorem Kw:fL H=lX (aj H) (aj H).length:=(fJ H).fr
theorem po:aj (H++[B])=(if cD B.s=true then aj H++[⟨fL H,H.length+1,(eQ (H++[B]) (fL H)).2,(eQ (H++[B]) (fL H)).1⟩] else aj H)/\fL (H++[B])=(if cD B.s=true then H.length+1 else fL H):=by
 unfold aj fL;rw[XC,Ye,Yn,fR,AG H [B] H.length (Xy _),pW];split <;> exact⟨rfl,rfl⟩
theorem kC(h:b<F.length):ay (F++y) b=ay F b:=by
 unfold ay;rw[Xw,Xw,XP h]
theorem FP(h:b<=F.length):lX (F++y) b=lX F b:=by
 unfold lX;split
 ·rw[kC F y (b-1) (by omega)]
 ·rfl
theorem Mh(S M:List Sm)(h:∀m∈M,b<m.z):qd b (S++M)=qd b S:=by
 induction S with
 | nil =>
  cases M with
  | nil=>rfl
  | cons m M =>
   have:=h m (by simp)
   show(if m.z<=b then qd b M+1 else 0)=0
   rw[Xz (by omega)]
 | cons s S a=>rw[Zt,qd,qd,a]
theorem uV(h:b<=F.length):bn (F++y) D b=bn F D b:=by
 unfold bn;by_cases a:D<=F.length
 ·rw[YI a,YY (by rw[Ym];omega)]
 ·rw[show b-D=0 by omega];simp
theorem mT(h:b<=F.length):bD (F++y) b=bD F b:=by
 unfold bD;rw[YY h]
theorem CK(L M:List Tk)(h:∃u∈L,pq u.s=true):mL (L++M)=mL L:=by
 induction L with
 | nil=>obtain⟨u,b,-⟩:=h;cases b
 | cons a L e =>
  rw[Zt,mL,mL];split
  ·rfl
  ·next d =>
   rw[e];obtain⟨u,b,c⟩:=h;rcases Yd.1 b with rfl | b
   ·exact absurd c d
   ·exact⟨u,b,c⟩
theorem PQ(c:dA i I):∃u∈i.drop I,pq u.s=true:=by
 obtain⟨e,d,b,a⟩:=c;refine⟨i[e],?_,?_⟩
 ·rw[List.mem_iff_getElem?];exact⟨e-I,by rw[Zb,show I+(e-I)=e by omega,Xv b]⟩
 ·unfold tS at a;rw[Xw,Xv b]at a;exact a
theorem sK(a:dA o b):bC (o++H) b=bC o b:=by
 have c:b<=o.length:=by obtain⟨e,d,f,-⟩:=a;omega
 unfold bC;rw[YI c,CK _ _ (PQ a)]
theorem PM(f:dA o b):dA (o++H) b:=by
 obtain⟨e,a,c,d⟩:=f;exact⟨e,a,by rw[XC];omega,by rw[gI o H e c];exact d⟩
theorem mS(h:∀j,j<I->z6 j=zt j):(List.range I).any z6=(List.range I).any zt:=by
 rw[Ze,Yu,Yu];constructor
 ·rintro ⟨j,a,b⟩;exact⟨j,a,by rw[<-h j (XI.1 a)];exact b⟩
 ·rintro ⟨j,a,b⟩;exact⟨j,a,by rw[h j (XI.1 a)];exact b⟩
theorem Ai{l:Xu}{q:Nat->Bool}(h:∀j∈l,z6 j=q j):l.find? z6=l.find? q:=by
 induction l with
 | nil=>rfl
 | cons a l c =>
  rw[Zak,Zak,h a (by simp),c (fun j b=>h j (by simp[b]))]
section
variable {T U:List Tk} {S M:List Sm} {n:Nat}
theorem zY(c:n<=S.length)(b:∀j,j<n->((ay S j).k.toList==L.toList)=true->dA T (ay S j).h):kR (T++U) (S++M) L l n zf=kR T S L l n zf:=by
 unfold kR;refine mS (fun j a=>?_);unfold sN;rw[kC S M j (by omega),uV S M j n c];cases h:((ay S j).k.toList==L.toList)
 ·rfl
 ·rw[sK T U _ (b j a h)]
theorem xo(a:jF T S n):fG (T++U) (S++M) w n=fG T S w n:=zY _ w _ a.m (by rw[qH.1];exact a.c)
theorem Nh(a:jF T S n):mH (T++U) (S++M) w n=mH T S w n:=zY _ w _ a.m (by rw[qH.2];exact a.v)
theorem C7(h:g.a<T.length):bP (T++U) g=bP T g:=by
 unfold bP;rw[gI T U g.a h]
theorem wC(c:jF T S n):bU (T++U) (S++M) w n=bU T S w n:=by
 unfold bU
 rw[Ai (q:=uB T S w) (fun j b=>by
  have b:=XI.1 b;have:=c.m;unfold uB;rw[kC S M j (by omega),C7 _ (c.a j b)])]
theorem DE(a:jF T S n):li (T++U) (S++M) w n=li T S w n:=by
 unfold li;rw[wC w a,xo w a,zY _ w _ a.m (by rw[qH.2];exact a.v)]
theorem N2(b:jF T S n)(c:oi T S n):iD (T++U) (S++M) w n=iD T S w n:=by
 unfold iD
 rw[Ai (q:=xy T S w n) (fun j a=>by
  have a:=XI.1 a;have:=b.m;unfold xy;rw[kC S M j (by omega),uV S M j n b.m];cases h:((ay S j).k.toList == [36,102])
  ·rfl
  ·rw[gI T U _ (c j a h)])]
theorem OD(a:jF T S n):lJ (T++U) (S++M) l n zf m=lJ T S l n zf m:=by
 unfold lJ;rw[DE l a,wC l a,xo l a,Nh l a]
theorem Lr(a:jF T S n)(b:oi T S n):kO (T++U) (S++M) L l n m=kO T S L l n m:=by
 unfold kO;rw[xo l a,Nh l a,N2 l a b]
theorem Ix(a:jF T S n)(b:oi T S n):nV (T++U) (S++M) L l n m=nV T S L l n m:=by
 unfold nV;rw[OD l _ m a,Lr L l m a b]
theorem CW(a:jF T S n):eu (T++U) (S++M) w n=eu T S w n:=by
 unfold eu;rw[mT S M n a.m,DE w a]
end
theorem Me(a:D<=b)(c:b<=o.length):fM (o++H) D b=fM o D b:=by
 unfold fM;rw[YI (by omega),YY (by rw[Ym];omega)]
theorem zS(f:o.length<=100000)(i:Nat)(c:i<o.length)(a:∀j,j<i->bG o (aj o) j=0):bG (o++H) (aj (o++H)) i=bG o (aj o) i:=by
 obtain⟨b,k⟩:=WY o f i c a;obtain⟨M,d,n⟩:=DD o H;rw[d];generalize aj o=S at *;have g:km (S++M) i=km S i:=Mh i S M (fun m l=>by have:=n m l;omega);have p:=QV S i;unfold bG;rw[g,FP S M _ b.m,gI o H i c];by_cases e:i=lX S (km S i)
 ·rw[XA e,XA e,CW _ b]
 ·rw[Xz e,Xz e,EE o H _ (by omega)];split
  ·rfl
  ·next q =>
   rw[Ix _ _ _ b k,Me o H _ i (by omega) (by omega)]
theorem uX(b:o.length<=100000)(h:∀j,j<o.length->bG o (aj o) j=0):∀j,j<o.length->bG (o++H) (aj (o++H)) j=0:=fun j a=>by
 rw[zS o H b j a (fun q c=>h q (by omega))];exact h j a
def yw(o:Int)(L:List Sm):Int:=L.foldl (fun o s=>aV o s.k) o
theorem CN(c:Int)(k:Xr):aV (z7+c) k=aV z7 k+c:=by
 unfold aV;split <;> split <;> omega
theorem GB(L:List Sm):∀o c,yw (o+c) L=yw o L+c:=by
 induction L with
 | nil=>intro o c;rfl
 | cons s L a =>
  intro o c;show yw (aV (o+c) s.k) L=yw (aV o s.k) L+c;rw[CN,a]
theorem Nu(L:List Sm)(s:Sm):∀o,uq o (L++[s])=(uq o L&&decide (0<=yw o (L++[s]))):=by
 induction L with
 | nil =>
  intro o
  show(if aV o s.k<0 then false else uq (aV o s.k) [])=(uq o []&&decide (0<=aV o s.k))
  simp only[uq];by_cases h:aV o s.k<0
  ·rw[XA h];simp;omega
  ·rw[Xz h];simp;omega
 | cons a L b =>
  intro o;rw[Zt,uq,uq];by_cases h:aV o a.k<0
  ·rw[XA h,XA h];rfl
  ·rw[Xz h,Xz h,b];rfl
theorem J0(c:D<=b):yw 0 ((y.drop D).take (b-D))=bD y b-bD y D:=by
 have e:y.take b=y.take D++(y.drop D).take (b-D):=by
  rw[show b=D+(b-D) by omega,List.take_add];simp
 have a:bD y b=yw (bD y D) ((y.drop D).take (b-D)):=by
  unfold bD yw;rw[e,ZA]
 have:=GB ((y.drop D).take (b-D)) 0 (bD y D);rw[Int.zero_add]at this;omega
theorem vQ(c:D<=b)(d:b<y.length):bn y D (b+1)=(bn y D b&&decide (bD y D<=bD y (b+1))):=by
 have e:(y.drop D).take (b+1-D)=(y.drop D).take (b-D)++[y[b]]:=by
  rw[show b+1-D=(b-D)+1 by omega,Yc (by rw[Ym];omega),Z8];congr 3;omega
 have a:=J0 y D (b+1) (by omega);unfold bn;rw[e]at a ⊢;rw[Nu,a];congr 1;rw[decide_eq_decide];omega
theorem FK:bn y b b=true:=by
 unfold bn;rw[YA,ZS,uq]
theorem Jz(n:Nat)(g:b<=n)(i:n<=y.length)(h:bn y b n=true):∀m,b<=m->m<=n->bD y b<=bD y m:=by
 induction n with
 | zero =>
  intro m a d;have e:m=b:=by omega
  rw[e];exact Zaa _
 | succ n f =>
  intro m a d;by_cases e:b=n+1
  ·have e:m=b:=(by omega);rw[e];exact Zaa _
  ·rw[vQ y b n (by omega) (by omega),XU,Y1]at h;by_cases c:m=n+1
   ·rw[c];exact h.2
   ·exact f (by omega) (by omega) h.1 m a (by omega)
def lO(S:List Sm)(n:Nat):Xu:=(List.range n).filter (fun j=>bn S j n)
theorem jH(h:z8∈lO x I):z8<I:=XI.1 (Yt.1 h).1
theorem Jy(e:b<=y.length):(lO y b).Pairwise (fun a c=>bD y a<=bD y c):=by
 have h:=(Zau (n:=b)).filter (fun j=>bn y j b);refine h.imp_of_mem (fun {a c} ha d hab=>?_);have d:=jH d;exact Jz y a b (by omega) e (Yt.1 ha).2 c (by omega) (by omega)
theorem Lk{f:Nat->Int}(l:Xu)(h:l.Pairwise (fun a b=>f a<=f b)):l=l.filter (fun j=>decide (f j<=z7))++l.filter (fun j=>!decide (f j<=z7)):=by
 induction l with
 | nil=>rfl
 | cons a l c =>
  obtain⟨g,i⟩:=List.pairwise_cons.1 h;have c:=c i;by_cases d:f a<=z7
  ·rw[Zl (by simpa using d),Y9 (by simpa using d),Zt,<-c]
  ·have e:l.filter (fun j=>decide (f j<=z7))=[]:=by
    rw[ZE];intro b k;have:=g b k;simp;omega
   rw[Y9 (by simpa using d),Zl (by simpa using d),e];rw[e]at c;rw[ZJ]at c ⊢;rw[<-c]
theorem fy(h:∀j,j<I->z6 j=zt j):(List.range I).filter z6=(List.range I).filter zt :=
 Z9 (fun j a=>h j (XI.1 a))
theorem ju:bD (y++[g]) (y.length+1)=aV (bD y y.length) g.k:=by
 rw[yq (y++[g]) y.length (by simp),mT y [g] _ (Xy _)];congr 2;simp
theorem uU:lO (y++[g]) (y.length+1)=(lO y y.length).filter (fun j=>decide (bD y j<=aV (bD y y.length) g.k))++(if 0<=aV 0 g.k then [y.length] else []):=by
 unfold lO;rw[YG,Yy,ZaK];congr 1
 ·refine fy (fun j a=>?_);rw[vQ (y++[g]) j y.length (by omega) (by simp),uV y [g] j _ (Xy _),mT y [g] j (by omega),ju,Zbd]
 ·have e:bn (y++[g]) y.length (y.length+1)=decide (0<=aV 0 g.k):=by
   rw[vQ (y++[g]) y.length y.length (Xy _) (by simp),FK,mT y [g] _ (Xy _),ju,Y0,decide_eq_decide];have:=CN 0 (bD y y.length) g.k;rw[Int.zero_add]at this;omega
  by_cases h:0<=aV 0 g.k
  ·rw[XA h,Zl (by rw[e];simpa using h)];rfl
  ·rw[Xz h,Y9 (by rw[e];simpa using h)];rfl
theorem Nv(a:I<=x.length)(h:z8∈lO x I):bD x z8<=bD x I:=by
 have b:=jH h;exact Jz x z8 I (by omega) a (Yt.1 h).2 I (by omega) (Xy _)
structure vO(F:Nat->Xs)(S:List Sm)(L:Xs)(B:Xu):Prop where
 l:L=(lO S S.length).flatMap F
 b:(B.length:Int)=bD S S.length
 o:∀i,i<B.length->B[i]?=some (((lO S S.length).filter (fun j=>decide (bD S j<=(i:Int)))).flatMap F).length
theorem ew{l:Xu}{G:Nat->Xs}(h:∀j∈l,u j=G j):l.flatMap u=l.flatMap G:=by
 induction l with
 | nil=>rfl
 | cons a l c=>rw[Yz,Yz,h a (by simp),c (fun j b=>h j (by simp[b]))]
theorem vg(b:I<=x.length)(c:bD x I<=z4):(lO x I).filter (fun j=>decide (bD x j<=z4))=lO x I :=
 List.filter_eq_self.2 (fun j a=>by have:=Nv b a;simp;omega)
theorem dg:(y++[g]).length=y.length+1:=by simp
theorem rV(b:I<=x.length)(c:Int):(lO x I).filter (fun j=>decide (bD (x++[z5]) j<=c))=(lO x I).filter (fun j=>decide (bD x j<=c)) :=
 Z9 (fun j a=>by rw[mT x [z5] j (by have:=jH a;omega)])
theorem vO.norm(h:vO u x z3 E)(s:Sm)(c:∀o,aV o s.k=o)(d:∀j,j<x.length->C j=u j):vO C (x++[s]) (z3++C x.length) E:=by
 have e:=uU x s;rw[c,c,XA (Zaa _),vg (Xy _) (Zaa _)]at e;have f:=h.b;refine⟨?_,?_,fun i g=>?_⟩
 ·rw[dg,e,YZ,h.l,ew (fun j a=>d j (jH a))];simp
 ·rw[dg,ju,c];exact f
 ·rw[dg,e,Yy,rV (Xy _),Y9 (by rw[mT x [s] _ (Xy _)];simp;omega),List.filter_nil,Ya,ew (fun j a=>d j (jH (Yt.1 a).1))];exact h.o i g
theorem vO.push(h:vO u x z3 E)(s:Sm)(d:∀o,aV o s.k=o+1)(m:∀j,j<x.length->C j=u j)(g:C x.length=[]):vO C (x++[s]) z3 (E++[z3.length]):=by
 have e:=uU x s;rw[d,d,XA (by omega),vg (Xy _) (by omega)]at e;have r:=h.b;have f:∀p:Nat->Bool,([x.length].filter p).flatMap C=[]:=fun p=>by
  rw[List.flatMap_eq_nil_iff];intro j c;have:=XH.1 (Yt.1 c).1;rw[this];exact g
 refine⟨?_,?_,fun i q=>?_⟩
 ·rw[dg,e,YZ,h.l,ew (fun j c=>m j (jH c))];simp[g]
 ·rw[dg,ju,d];simp;omega
 ·rw[dg,e,Yy,rV (Xy _),YZ,f,Ya,ew (fun j c=>m j (jH (Yt.1 c).1))];simp only[List.length_append,List.length_cons,List.length_nil]at q;by_cases a:i<E.length
  ·rw[XP a];exact h.o i a
  ·have n:i=E.length:=(by omega);rw[n,XO (Xy _),YA,vg (Xy _) (by omega),<-h.l];rfl
theorem vO.pop(h:vO u x z3 (E++[I]))(s:Sm)(d:∀o,aV o s.k=o-1)(g:∀j,j<x.length->C j=u j):vO C (x++[s]) (z3.take I) E:=by
 have e:=uU x s;rw[d,d,Xz (by omega),Ya]at e;have r:=h.b;simp only[List.length_append,List.length_cons,List.length_nil]at r;have t:bD x x.length-1=E.length:=by omega
 rw[t]at e;have c:=h.o E.length (by simp);rw[XO (Xy _),YA]at c;have c:I=(((lO x x.length).filter (fun j=>decide (bD x j<=E.length))).flatMap u).length:=by simpa using c
 refine⟨?_,?_,fun i v=>?_⟩
 ·rw[dg,e,ew (G:=u) (fun j a=>g j (jH (Yt.1 a).1))];have n:=h.l;rw[Lk (f:=bD x) (E.length:Int) (lO x x.length) (Jy x _ (Xy _)),YZ]at n;rw[n,c,YY (Xy _),Yl]
 ·rw[dg,ju,d];omega
 ·rw[dg,e,ZaK];have p:(lO x x.length).filter (fun j=>decide (bD (x++[s]) j<=(i:Int))&&decide (bD x j<=E.length))=(lO x x.length).filter (fun j=>decide (bD x j<=(i:Int))) :=
   Z9 (fun j a=>by
    rw[mT x [s] j (by have:=jH a;omega)];by_cases m:bD x j<=(i:Int)
    ·have q:bD x j<=E.length:=(by omega);simp[m,q]
    ·simp[m])
  rw[p,ew (G:=u) (fun j a=>g j (jH (Yt.1 a).1))];have:=h.o i (by simp;omega);rw[XP v]at this;exact this
def I9(T:List Tk)(S:List Sm)(j:Nat):Xs:=if((ay S j).k.toList == [36,118])=true then bC T (ay S j).h else []
def NO(T:List Tk)(S:List Sm)(j:Nat):Xs:=if((ay S j).k.toList == [36,99])=true then bC T (ay S j).h else []
def Mm(T:List Tk)(S:List Sm)(j:Nat):Xs:=if((ay S j).k.toList == [36,102])=true then [tS T ((ay S j).h+1)] else []
def Sa(T:List Tk)(S:List Sm)(j:Nat):Xs:=if((bP T (ay S j)).toList == [])=true then [] else [bP T (ay S j)]
theorem qD(F:Nat->Xs)(l:Xu)(x:Xr):aN (l.flatMap F) x=l.any (fun j=>aN (F j) x):=by
 unfold aN;rw[List.any_flatMap]
theorem j7:aN [] w=false:=rfl
theorem As(a:Xs)(x:Xr):aN (m++a) x=(aN m x||aN a x):=by
 unfold aN;rw[Za6]
theorem vh:aN [l] w=(l.toList==w.toList):=by simp[aN]
theorem yk(q:Nat->Bool):(z0.filter z1).any q=z0.any (fun j=>z1 j&&q j):=by
 rw[List.any_filter]
theorem Ni:mH H y l b=aN ((lO y b).flatMap (I9 H y)) l:=by
 rw[qD];unfold lO;rw[yk];unfold mH kR;refine mS (fun j a=>?_);unfold sN I9;rw[qH.2];cases h:((ay y j).k.toList == [36,118])
 ·rw[Xz (by simp),j7];simp
 ·rw[XA rfl];simp[Bool.and_comm]
theorem xp:fG H y l b=aN ((List.range b).flatMap (NO H y)) l:=by
 rw[qD];unfold fG kR;refine mS (fun j a=>?_);unfold sN NO;rw[qH.1];cases h:((ay y j).k.toList == [36,99])
 ·rw[Xz (by simp),j7];simp
 ·rw[XA rfl];simp
theorem JD:kR H y ⟨#[36,118]⟩ l b false=aN ((List.range b).flatMap (I9 H y)) l:=by
 rw[qD];unfold kR;refine mS (fun j a=>?_);unfold sN I9;rw[qH.2];cases h:((ay y j).k.toList == [36,118])
 ·rw[Xz (by simp),j7];simp
 ·rw[XA rfl];simp
theorem Vi:(match z0.find? z1 with | some j=>(j:Int) | none=>-1)=-1 ↔ z0.any z1=false:=by
 cases h:z0.find? z1 with
 | none=>simp only[true_iff];rw[ZL];rw[YD]at h;exact h
 | some j =>
  have a:=Zd h;have b:=XS h;have c:z0.any z1=true:=Yu.2 ⟨j,b,a⟩;rw[c];simp only[Bool.true_eq_false,iff_false];intro d;have:(0:Int)<=(j:Int):=by omega
  omega
theorem Ms:decide (0<=(match z0.find? z1 with | some j=>(j:Int) | none=>-1))=z0.any z1:=by
 cases h:z0.find? z1 with
 | none =>
  have:=(Vi z0 z1).1 (by rw[h]);rw[this];rfl
 | some j =>
  have a:z0.any z1=true:=Yu.2 ⟨j,XS h,Zd h⟩;rw[a];simp
theorem wD:decide (0<=bU H y l b)=aN ((List.range b).flatMap (Sa H y)) l:=by
 rw[qD];unfold bU;refine(Ms (List.range b) (uB H y l)).trans ?_;refine mS (fun j a=>?_);unfold uB Sa;cases h:((bP H (ay y j)).toList == [])
 ·rw[Xz (by simp),vh];simp
 ·rw[XA rfl,j7];simp
theorem N3:decide (0<=iD H y l b)=aN ((lO y b).flatMap (Mm H y)) l:=by
 rw[qD];unfold lO;rw[yk];unfold iD;refine(Ms (List.range b) (xy H y l b)).trans ?_;refine mS (fun j a=>?_);unfold xy Mm;cases h:((ay y j).k.toList == [36,102])
 ·rw[Xz (by simp),j7];simp
 ·rw[XA rfl,vh];simp[Bool.and_comm]
theorem ET(d:H.length<=100000)(b:∀j,j<H.length->bG H (aj H) j=0):jF H (aj H) (aj H).length/\oi H (aj H) (aj H).length:=by
 have p:=fJ H;have f:(aj H).length<=H.length:=t8 H H.length;generalize aj H=S at *;have c:=fun j (a:j<S.length)=>Jh p j a (fun q _ e=>b q (by have:=(p.s j a).2;omega));refine⟨⟨Xy _,by omega,d,fun j a=>(c j a).1,fun j a=>(c j a).2.1,fun j a=>?_⟩,fun j a=>(c j a).2.2⟩;have:=(p.s j a).1.lt;have:=(p.s j a).2;omega
structure vL(T:List Tk)(S:List Sm)(d:Db):Prop where
 con:d.Zbg=(List.range S.length).flatMap (NO T S)
 var:∀x,aN d.Zbh x=aN ((List.range S.length).flatMap (I9 T S)) x
 act:vO (I9 T S) S d.Zbn (d.ZbA.map (·.1))
 typ:vO (Mm T S) S d.Zbq (d.ZbA.map (·.2))
def lq(T:List Tk)(S:List Sm):Xs:=(List.range S.length).flatMap (Sa T S)
def fC(l:List UInt8)(k:Int):Prop:=(l=[36,99]/\k=7)∨(l=[36,118]/\k=8)∨(l=[36,100]/\k=1)∨(l=[36,102]/\k=2)∨(l=[36,101]/\k=3)∨(l=[36,97]/\k=4)∨(l=[36,112]/\k=5)
theorem fC.c:fC [36,99] 7:=by simp[fC]
theorem fC.v:fC [36,118] 8:=by simp[fC]
theorem fC.d:fC [36,100] 1:=by simp[fC]
theorem fC.f:fC [36,102] 2:=by simp[fC]
theorem fC.e:fC [36,101] 3:=by simp[fC]
theorem fC.a:fC [36,97] 4:=by simp[fC]
theorem fC.p:fC [36,112] 5:=by simp[fC]
def kL(y:Xr):Bool:=!(y.toList == [36,61])
def xb(T:List Tk)(d:Db):Prop :=
 (fL T=T.length/\d.Zby=0/\d.Zbe=[]/\d.Zbi=false/\d.Zbm=lq T (aj T)) ∨
 (fL T+1=T.length/\d.Zby=6/\d.Zbe=[]/\d.Zbi=false/\d.Zbm=lq T (aj T)++[tS T (fL T)]/\((tS T (fL T)).toList == [])=false/\jC (tS T (fL T)) ⟨#[36]⟩=false) ∨
 ∃(key:Xr) (head:Nat) (B:Xs),eQ T (fL T)=(key,head)/\fL T<head/\head<=T.length/\fC key.toList d.Zby/\fM T head T.length=B/\d.Zbi=aN B ⟨#[36,61]⟩/\d.Zbe=B.takeWhile kL/\(d.Zbi=true->d.Zby=5/\d.Zbe≠[]) /\
  d.Zbm=lq T (aj T)++(if(aG key||aK key)=true then [tS T (fL T)] else [])/\((aG key||aK key)=true->((tS T (fL T)).toList == [])=false)
theorem xb.none(a:fL i=i.length)(b:N.Zby=0)(c:N.Zbe=[])(d:N.Zbi=false)(e:N.Zbm=lq i (aj i)):xb i N:=XQ ⟨a,b,c,d,e⟩
theorem xb.lab(a:fL i+1=i.length)(b:N.Zby=6)(c:N.Zbe=[])(d:N.Zbi=false)(e:N.Zbm=lq i (aj i)++[tS i (fL i)])(f:((tS i (fL i)).toList == [])=false)(g:jC (tS i (fL i)) ⟨#[36]⟩=false):xb i N:=XK (XQ ⟨a,b,c,d,e,f,g⟩)
theorem xb.body(c:eQ i (fL i)=(l,b))(d:fL i<b)(e:b<=i.length)(f:fC l.toList N.Zby)(g:fM i b i.length=m)(j:N.Zbi=aN m ⟨#[36,61]⟩)(k:N.Zbe=m.takeWhile kL)(n:N.Zbi=true->N.Zby=5/\N.Zbe≠[])(o:N.Zbm=lq i (aj i)++(if(aG l||aK l)=true then [tS i (fL i)] else []))(a:(aG l||aK l)=true->((tS i (fL i)).toList == [])=false):xb i N:=XK (XK ⟨l,b,m,c,d,e,f,g,j,k,n,o,a⟩)
theorem vO.congr(h:vO u x z3 E)(c:∀j,j<x.length->C j=u j):vO C x z3 E :=
 ⟨by rw[ew (G:=u) (fun j a=>c j (jH a))];exact h.l,h.b,fun i d=>by rw[ew (G:=u) (fun j a=>c j (jH (Yt.1 a).1))];exact h.o i d⟩
section
variable {T U:List Tk} {S M:List Sm}
theorem rQ(b:jF T S S.length)(j:Nat)(a:j<S.length):I9 (T++U) (S++M) j=I9 T S j:=by
 unfold I9;rw[kC S M j a];split
 ·next h=>rw[sK T U _ (b.v j a h)]
 ·rfl
theorem zm(b:jF T S S.length)(j:Nat)(a:j<S.length):NO (T++U) (S++M) j=NO T S j:=by
 unfold NO;rw[kC S M j a];split
 ·next h=>rw[sK T U _ (b.c j a h)]
 ·rfl
theorem zo(b:oi T S S.length)(j:Nat)(a:j<S.length):Mm (T++U) (S++M) j=Mm T S j:=by
 unfold Mm;rw[kC S M j a];split
 ·next h=>rw[gI T U _ (b j a h)]
 ·rfl
theorem MC(c:jF T S S.length)(j:Nat)(b:j<S.length):Sa (T++U) (S++M) j=Sa T S j:=by
 unfold Sa;rw[kC S M j b,C7 _ (c.a j b)]
end
theorem rH(h:∀j,j<I->C j=u j):(List.range I).flatMap C=(List.range I).flatMap u:=ew (fun j a=>h j (XI.1 a))
theorem fZ(h:∀j,j<I->C j=u j):(List.range (I+1)).flatMap C=(List.range I).flatMap u++C I:=by
 rw[YG,YZ,rH h];simp
theorem t7(b:jF i x x.length):lq (i++A) x=lq i x:=by
 unfold lq;exact rH (fun j a=>by have:=MC (U:=A) (M:=[]) b j a;rw[Ya]at this;exact this)
theorem xH(b:jF i x x.length):lq (i++A) (x++[g])=lq i x++Sa (i++A) (x++[g]) x.length:=by
 unfold lq;rw[dg];exact fZ (fun j a=>MC b j a)
theorem vL.same(h:vL i x N)(d:jF i x x.length)(m:oi i x x.length)(e:z2.Zbg=N.Zbg)(f:z2.Zbh=N.Zbh)(g:z2.Zbn=N.Zbn)(k:z2.Zbq=N.Zbq)(b:z2.ZbA=N.ZbA):vL (i++A) x z2:=by
 have c:∀j,j<x.length->I9 (i++A) x j=I9 i x j:=fun j a=>by have:=rQ (U:=A) (M:=[]) d j a;rw[Ya]at this;exact this
 have l:∀j,j<x.length->NO (i++A) x j=NO i x j:=fun j a=>by have:=zm (U:=A) (M:=[]) d j a;rw[Ya]at this;exact this
 have n:∀j,j<x.length->Mm (i++A) x j=Mm i x j:=fun j a=>by have:=zo (U:=A) (M:=[]) m j a;rw[Ya]at this;exact this
 exact⟨by rw[e,rH l];exact h.con,fun o=>by rw[f,rH c];exact h.var o,by rw[g,b];exact h.act.congr c,by rw[k,b];exact h.typ.congr n⟩
theorem mu:ay (y++[g]) y.length=g:=xV y g
theorem vL.close(h:vL i x N)(c:jF i x x.length)(n:oi i x x.length)(s:Sm)(e:∀o,aV o s.k=o)(f:z2.Zbg=N.Zbg++NO (i++A) (x++[s]) x.length)(g:∀b,aN z2.Zbh b=(aN N.Zbh b||aN (I9 (i++A) (x++[s]) x.length) b))(l:z2.Zbn=N.Zbn++I9 (i++A) (x++[s]) x.length)(m:z2.Zbq=N.Zbq++Mm (i++A) (x++[s]) x.length)(d:z2.ZbA=N.ZbA):vL (i++A) (x++[s]) z2 :=
 ⟨by rw[dg,fZ (fun j a=>zm c j a),<-h.con];exact f,fun b=>by rw[dg,fZ (fun j a=>rQ c j a),As,<-h.var];exact g b,
  by rw[l,d];exact h.act.norm s e (fun j a=>rQ c j a),by rw[m,d];exact h.typ.norm s e (fun j a=>zo n j a)⟩
theorem FW(g:H.length<=100000)(a:∀j,j<H.length->bG H (aj H) j=0):bG (H++[B]) (aj (H++[B])) H.length =
  if H.length=fL H then eu H (aj H) B.s (aj H).length
  else if H.length<(eQ (H++[B]) (fL H)).2 then(if(aG B.s||aK B.s)=true then 0 else 14)
  else nV H (aj H) (eQ (H++[B]) (fL H)).1 B.s (aj H).length (fM H (eQ (H++[B]) (fL H)).2 H.length):=by
 obtain⟨d,k⟩:=ET H g a;obtain⟨M,f,l⟩:=DD H [B];have p:=fJ H;rw[f,Kw];generalize aj H=S at *;have i:km (S++M) H.length=S.length:=by
  unfold km;rw[Mh H.length S M l];exact Q6 _ S S.length (fun q b=>⟨ay S q,Nb S q b,(p.s q b).2⟩) (fun s c=>by rw[Yb (Xy _)]at c;cases c)
 unfold bG;rw[i,FP S M _ (Xy _),pW];by_cases e:H.length=lX S S.length
 ·rw[XA e,XA e,CW _ d]
 ·rw[Xz e,Xz e];split
  ·rfl
  ·next m=>rw[Ix _ _ _ d k,Me H [B] _ _ (by omega) (Xy _)]
theorem IY(h:vL i x N)(b:N.Zbm=lq i x)(a:Xr):li i x a x.length=eB N a:=by
 unfold li eB;rw[wD,xp,JD,<-h.con,<-h.var,b,Z3];rfl
theorem PY(h:vL i x N)(b:N.Zbm=lq i x)(a:Xr):(decide (0<=bU i x a x.length)||(fG i x a x.length||mH i x a x.length))=eI N a:=by
 unfold eI;rw[wD,xp,Ni,<-h.con,<-h.act.l,b,Z3];rfl
theorem Gj(h:vL i x N):bD x x.length=(N.ZbA.length:Int):=by
 have:=h.act.b;rw[XZ]at this;exact this.symm
theorem uZ(h:z.toList=r)(o:Int):aV o z=if(r == [36,125])=true then(if(r == [36,123])=true then o+1 else o)-1 else(if(r == [36,123])=true then o+1 else o):=by
 unfold aV;rw[h]
theorem kQ{k:Xr}(h:k.toList=r):aG k=((r == [36,97])||(r == [36,112]))/\aK k=((r == [36,102])||(r == [36,101]))/\cD k=((r == [36,46])||(r == [36,123])||(r == [36,125])):=by
 unfold aG aK cD;rw[h];exact⟨rfl,rfl,rfl⟩
theorem Lp(h:z.toList=r):jC z ⟨#[36]⟩=jC ⟨r.toArray⟩ ⟨#[36]⟩:=by
 rw[sY (x:=z) (l:=r) (by rw[h];simp)]
theorem fC.dep(h:fC z.toList z4):(∀o,aV o z=o)/\jC z ⟨#[36]⟩=true/\cD z=false:=by
 generalize hl:z.toList=l at h;have a:=fun o=>uZ hl o;have b:=Lp hl;have c:=(kQ hl).2.2
 (rcases h with ⟨rfl,rfl⟩ | ⟨rfl,rfl⟩ | ⟨rfl,rfl⟩ | ⟨rfl,rfl⟩ | ⟨rfl,rfl⟩ | ⟨rfl,rfl⟩ | ⟨rfl,rfl⟩) <;> exact⟨fun o=>a o,b.trans (by decide +kernel),c⟩
section
variable {T:List Tk} {t:Tk} {d:Db}
theorem Ht(b:fL T=T.length)(a:jC t.s ⟨#[36]⟩=true):eQ (T++[t]) (fL T)=(t.s,T.length+1):=by
 unfold eQ;rw[b,pW,a];simp
theorem qF(a:eQ T (fL T)=(z,I))(f:fL T<I)(g:I<=T.length)(d:fC z.toList z4):eQ (T++[t]) (fL T)=(z,I):=by
 rw[<-a];by_cases h:fL T+1<T.length
 ·exact EE T [t] _ h
 ·have e:eQ T (fL T)=(tS T (fL T),fL T+1):=by
   unfold eQ;rw[XA (by simp;right;omega)]
  rw[a]at e;have c:z=tS T (fL T):=congrArg Prod.fst e;have b:=d.dep.2.1;rw[c]at b;unfold eQ;rw[gI T [t] _ (by omega),b];simp
theorem nD(T:List Tk)(h:Nat):fM T h T.length=(T.drop h).map (·.s):=by
 unfold fM;rw[YV (by rw[Ym];exact Xy _)]
theorem QU(t:Tk)(h:Nat)(a:h<=T.length):fM (T++[t]) h (T++[t]).length=fM T h T.length++[t.s]:=by
 rw[nD,nD,YI a];simp
theorem vU(L:List Tk)(t:Tk)(c:∀u∈L,(u.s.toList == [36,46])=false)(e:(t.s.toList == [36,46])=true):mL (L++[t])=(L.map (·.s)).takeWhile kL:=by
 induction L with
 | nil=>rw[ZJ,mL,XA (wW e)];rfl
 | cons a L g =>
  have d:=c a (by simp);rw[Zt,mL,Zu];cases b:(a.s.toList == [36,61])
  ·rw[Xz (by unfold pq;rw[d,b];simp),Zc (by unfold kL;rw[b];rfl),g (fun u f=>c u (by simp[f]))]
  ·rw[XA (by unfold pq;rw[b];rfl),Zo (by unfold kL;rw[b];simp)]
theorem xL(T:List Tk)(h:Nat)(a:fL T<=h):∀u∈T.drop h,cD u.s=false:=by
 intro u c;obtain⟨q,b,e⟩:=Yr c;rw[Ym]at b;have:=(fJ T).n (h+q) (by unfold fL at a;omega) (by omega);rw[Z8]at e;unfold tS at this;rw[Xw,Xv (by omega)]at this;rw[<-e];exact this
theorem RH(h:aN m ⟨#[36,61]⟩=false):∀y∈m,kL y=true:=by
 intro y a;unfold aN at h;rw[ZL]at h;have:=h y a;have e:(⟨#[36,61]⟩:Xr).toList=[36,61]:=by decide +kernel
 rw[e]at this;unfold kL;simpa using this
theorem Qe(B:Xs)(h:∀y∈B,kL y=true):B.takeWhile kL=B:=by
 induction B with
 | nil=>rfl
 | cons a B c=>rw[Zc (h a (by simp)),c (fun y b=>h y (by simp[b]))]
theorem wo(h:aN m ⟨#[36,61]⟩=false):m.takeWhile kL=m:=Qe m (RH m h)
theorem TV(B:Xs)(y:Xr)(h:aN B ⟨#[36,61]⟩=true):(B++[y]).takeWhile kL=B.takeWhile kL:=by
 have e:(⟨#[36,61]⟩:Xr).toList=[36,61]:=by decide +kernel
 induction B with
 | nil=>cases h
 | cons a B d =>
  rw[Zt];cases b:(a.toList == [36,61])
  ·have c:aN B ⟨#[36,61]⟩=true:=by
    unfold aN at h ⊢;rw[ZO,e,b,Y7]at h;rw[e];exact h
   rw[Zc (by unfold kL;rw[b];rfl),Zc (by unfold kL;rw[b];rfl),d c]
  ·rw[Zo (by unfold kL;rw[b];simp),Zo (by unfold kL;rw[b];simp)]
end
theorem dm{m:List UInt8}(h:(z.toList==r)=true):(z.toList==m)=(r==m):=by
 have:z.toList=r:=by simpa using h
 rw[this]
theorem dF(h:(z.toList==r)=true):z.toList=r:=by simpa using h
section
variable {T:List Tk} {t:Tk} {d:Db}
theorem oO(d:fL T=T.length)(c:cD t.s=true):aj (T++[t])=aj T++[⟨fL T,T.length+1,T.length+1,t.s⟩]/\fL (T++[t])=(T++[t]).length:=by
 obtain⟨a,b⟩:=po T t;rw[XA c,Ht d (mx c).1]at a;rw[XA c]at b;exact⟨a,by rw[b];simp⟩
theorem mY(c:cD t.s=false):aj (T++[t])=aj T/\fL (T++[t])=fL T:=by
 obtain⟨a,b⟩:=po T t;rw[Xz (by rw[c];simp)]at a b;exact⟨a,b⟩
theorem Xh{S:List Sm}{s:Sm}{U:List Tk}(a:(s.k.toList == [36,118])=false)(b:(s.k.toList == [36,99])=false)(c:(s.k.toList == [36,102])=false):I9 U (S++[s]) S.length=[]/\NO U (S++[s]) S.length=[]/\Mm U (S++[s]) S.length=[]:=by
 unfold I9 NO Mm;rw[mu,a,b,c];exact⟨rfl,rfl,rfl⟩
theorem Kd{S:List Sm}{s:Sm}{U:List Tk}(h:(aG s.k||aK s.k)=false):Sa U (S++[s]) S.length=[]:=by
 have e:bP U s=⟨#[]⟩:=by unfold bP;rw[h,Xz (by simp)]
 unfold Sa;rw[mu,e,XA rC]
theorem Vz(h:(aG z5.k||aK z5.k)=true)(b:((tS i z5.a).toList == [])=false):Sa i (x++[z5]) x.length=[tS i z5.a]:=by
 have e:bP i z5=tS i z5.a:=by unfold bP;rw[h,XA rfl]
 unfold Sa;rw[mu,e,Xz (by rw[b];simp)]
theorem Lo(w:jF T (aj T) (aj T).length)(V:oi T (aj T) (aj T).length)(I:vL T (aj T) d)(N:fL T=T.length)(hk:d.Zby=0)(F:d.Zbe=[])(B:d.Zbi=false)(P:d.Zbm=lq T (aj T))(hx:(t.s.toList == [])=false) :
  eu T (aj T) t.s (aj T).length=(aC d t.s).1/\((aC d t.s).1=0->vL (T++[t]) (aj (T++[t])) (aC d t.s).2/\xb (T++[t]) (aC d t.s).2):=by
 have E:=Gj I;have ac:=IY I P t.s
 -- a keyword of a statement without a af
 have H:∀{n:Int} {R:Db},fC t.s.toList n->(aG t.s||aK t.s)=false->R={ d with Zby:=n }->vL (T++[t]) (aj (T++[t])) R/\xb (T++[t]) R:=fun {n R} u J e=>by
  obtain⟨y,D⟩:=mY (T:=T) (t:=t) u.dep.2.2;have O:eQ (T++[t]) (fL (T++[t]))=(t.s,T.length+1):=by rw[D];exact Ht N u.dep.2.1
  have hB:fM (T++[t]) (T.length+1) (T++[t]).length=[]:=by rw[nD];simp
  subst e;refine⟨by rw[y];exact I.same w V rfl rfl rfl rfl rfl,xb.body t.s (T.length+1) [] O (by rw[D];omega) (by simp) u hB (by rw[j7];exact B) F (fun h=>by rw[B]at h;cases h) ?_ (fun h=>by rw[J]at h;cases h)⟩;rw[y,J,Xz (by simp),Ya,t7 w];exact P
 cases b:(t.s.toList == [36,123])
 ·cases f:(t.s.toList == [36,125])
  ·cases l:(t.s.toList == [36,99])
   ·cases g:(t.s.toList == [36,118])
    ·cases m:(t.s.toList == [36,100])
     ·cases z:(aG t.s||aK t.s)
      ·have h7:(t.s.toList == [36,102])=false/\(t.s.toList == [36,101])=false/\(t.s.toList == [36,97])=false/\(t.s.toList == [36,112])=false:=by
        unfold aG aK at z;simp only[Bool.or_eq_false_iff]at z;exact⟨z.2.1,z.2.2,z.1.1,z.1.2⟩
       obtain⟨g1,g2,g3,g4⟩:=h7;have k:aC d t.s=bS d t.s:=by
        unfold aC;rw[b,f,l,g,m,g1,g2,g3,g4];simp
       have i:eu T (aj T) t.s (aj T).length=if jC t.s ⟨#[36]⟩=true then 8 else if ja t.s=false then 12 else if eB d t.s=true then 13 else 0:=by
        unfold eu;rw[b,f,l,g,m,z,ac];simp
       rw[k,i,jx];unfold bS;cases k1:dO t.s
       ·cases k2:ja t.s
        ·exact⟨rfl,fun h=>by simp at h⟩
        ·cases k3:eB d t.s
         ·refine⟨rfl,fun _=>?_⟩;have C:cD t.s=false:=by
           cases L:cD t.s
           ·rfl
           ·have:=(mx L).1;rw[jx,k1]at this;cases this
          obtain⟨y,D⟩:=mY (T:=T) (t:=t) C;have X:tS (T++[t]) (fL (T++[t]))=t.s:=(by rw[D,N,pW]);simp only[Bool.false_eq_true,if_false];exact⟨by rw[y];exact I.same w V rfl rfl rfl rfl rfl,xb.lab (by rw[D,N];simp) rfl F B (by rw[X,y,t7 w,<-P];rfl) (by rw[X];exact hx) (by rw[X,jx];exact k1)⟩
         ·exact⟨rfl,fun h=>by simp at h⟩
       ·exact⟨rfl,fun h=>by simp at h⟩
      ·have k:aC d t.s=(11,d):=by
        unfold aC;rw[b,f,l,g,m];unfold aG aK at z;rw[Xz (by simp),Xz (by simp),Xz (by simp),Xz (by simp),Xz (by simp),XA];simp only[Bool.or_eq_true]at z;rcases z with (h | h) | (h | h)
        ·exact XK (XK (XQ h))
        ·exact XK (XK (XK h))
        ·exact XQ h
        ·exact XK (XQ h)
       have i:eu T (aj T) t.s (aj T).length=11:=by
        unfold eu;rw[b,f,l,g,m,z];simp
       rw[k,i];exact⟨rfl,fun h=>by cases h⟩
     ·have u:=fC.d;rw[<-dF m]at u;have k:aC d t.s=(0,{ d with Zby:=1 }):=by
       unfold aC;rw[b,f,l,g,m];simp
      have i:eu T (aj T) t.s (aj T).length=0:=by
       unfold eu;rw[m];simp
      rw[k,i];exact⟨rfl,fun _=>H u (by rw[(kQ (dF m)).1,(kQ (dF m)).2.1];decide) rfl⟩
    ·have u:=fC.v;rw[<-dF g]at u;have k:aC d t.s=(0,{ d with Zby:=8 }):=by
      unfold aC;rw[b,f,l,g];simp
     have i:eu T (aj T) t.s (aj T).length=0:=by
      unfold eu;rw[g];simp
     rw[k,i];exact⟨rfl,fun _=>H u (by rw[(kQ (dF g)).1,(kQ (dF g)).2.1];decide) rfl⟩
   ·have u:=fC.c;rw[<-dF l]at u;have g:(t.s.toList == [36,118])=false:=by rw[dm l];decide
    have m:(t.s.toList == [36,100])=false:=(by rw[dm l];decide);by_cases A:0<d.ZbA.length
    ·have k:aC d t.s=(10,d):=by
      unfold aC;rw[b,f,l];simp[A]
     have i:eu T (aj T) t.s (aj T).length=10:=by
      unfold eu;rw[b,f,l,g,m,E,YX (show(0:Int)<(d.ZbA.length:Int) by omega)];simp
     rw[k,i];exact⟨rfl,fun h=>by cases h⟩
    ·have k:aC d t.s=(0,{ d with Zby:=7 }):=by
      unfold aC;rw[b,f,l,Xz (by simp),Xz (by simp),XA rfl,Xz A]
     have i:eu T (aj T) t.s (aj T).length=0:=by
      unfold eu;rw[b,f,l,g,m,E,YB (show ¬(0:Int)<(d.ZbA.length:Int) by omega)];simp
     rw[k,i];exact⟨rfl,fun _=>H u (by rw[(kQ (dF l)).1,(kQ (dF l)).2.1];decide) rfl⟩
  ·have g:(t.s.toList == [36,118])=false:=(by rw[dm f];decide);have m:(t.s.toList == [36,100])=false:=(by rw[dm f];decide);have L:cD t.s=true:=(by rw[(kQ (dF f)).2.2];decide);have k:aC d t.s=(match d.ZbA.getLast? with | none=>(9,d) | some p=>(0,cZ d p)):=by
    unfold aC;rw[b,f,Xz (by simp),XA rfl];rfl
   cases A:d.ZbA.getLast? with
   | none =>
    have K:d.ZbA.length=0:=(by rw[List.getLast?_eq_none_iff]at A;rw[A];rfl);have i:eu T (aj T) t.s (aj T).length=9:=by
     unfold eu;rw[b,f,g,m,E,K];simp
    rw[k,i,A];exact⟨rfl,fun h=>by cases h⟩
   | some q =>
    have C:d.ZbA≠[]:=fun e=>by rw[e]at A;cases A
    have Y:d.ZbA=d.ZbA.dropLast++[q]:=by
     have:=ZaB C;rw[Zw C]at A;cases A
     exact this.symm
    have K:0<d.ZbA.length:=Zaf.2 C;have i:eu T (aj T) t.s (aj T).length=0:=by
     unfold eu;rw[b,f,g,m,E,show((d.ZbA.length:Int)==0)=false by simp;omega];simp
    rw[k,i,A];refine⟨rfl,fun _=>?_⟩;obtain⟨y,D⟩:=oO (T:=T) (t:=t) N L;have Q:∀o,aV o t.s=o-1:=fun o=>by rw[uZ (dF f)];rfl
    obtain⟨W,n2,n3⟩:=Xh (S:=aj T) (s:=⟨fL T,T.length+1,T.length+1,t.s⟩) (U:=T++[t]) g (by show(t.s.toList==_)=false;rw[dm f];decide) (by show(t.s.toList==_)=false;rw[dm f];decide);have Z:=Kd (S:=aj T) (s:=⟨fL T,T.length+1,T.length+1,t.s⟩) (U:=T++[t]) (by show(aG t.s||aK t.s)=false;rw[(kQ (dF f)).1,(kQ (dF f)).2.1];decide);have J:=I.act;have hy:=I.typ;rw[Y,Yj]at J hy;have M:(cZ d q).Zbg=d.Zbg/\(cZ d q).Zbh=d.Zbh/\(cZ d q).Zbn=d.Zbn.take q.1/\(cZ d q).Zbq=d.Zbq.take q.2/\(cZ d q).ZbA=d.ZbA.dropLast/\(cZ d q).Zby=d.Zby/\(cZ d q).Zbe=d.Zbe/\(cZ d q).Zbi=d.Zbi/\(cZ d q).Zbm=d.Zbm:=by
     unfold cZ dI;split <;> exact⟨rfl,rfl,rfl,rfl,rfl,rfl,rfl,rfl,rfl⟩
    obtain⟨d1,d2,d3,d4,d5,d6,d7,d8,d9⟩:=M;simp only;rw[y];refine⟨⟨?_,fun x=>?_,?_,?_⟩,xb.none D (by rw[d6];exact hk) (by rw[d7];exact F) (by rw[d8];exact B) ?_⟩
    ·rw[d1,dg,fZ (fun j r=>zm w j r),n2,Ya];exact I.con
    ·rw[d2,dg,fZ (fun j r=>rQ w j r),W,Ya];exact I.var x
    ·rw[d3,d5];exact J.pop ⟨fL T,T.length+1,T.length+1,t.s⟩ Q (fun j r=>rQ w j r)
    ·rw[d4,d5];exact hy.pop ⟨fL T,T.length+1,T.length+1,t.s⟩ Q (fun j r=>zo V j r)
    ·rw[d9,y,xH _ w,Z,Ya];exact P
 ·have g:(t.s.toList == [36,118])=false:=by rw[dm b];decide
  have L:cD t.s=true:=by rw[(kQ (dF b)).2.2];decide
  have k:aC d t.s=(0,{ d with ZbA:=d.ZbA++[(d.Zbn.length,d.Zbq.length)],rbl:=d.rbl++[d.Zbv.length] }):=by
   unfold aC;rw[b,XA rfl]
  have i:eu T (aj T) t.s (aj T).length=0:=by
   unfold eu;rw[b];simp
  rw[k,i];refine⟨rfl,fun _=>?_⟩;obtain⟨y,D⟩:=oO (T:=T) (t:=t) N L;have Q:∀o,aV o t.s=o+1:=fun o=>by rw[uZ (dF b)];rfl
  obtain⟨W,n2,n3⟩:=Xh (S:=aj T) (s:=⟨fL T,T.length+1,T.length+1,t.s⟩) (U:=T++[t]) g (by show(t.s.toList==_)=false;rw[dm b];decide) (by show(t.s.toList==_)=false;rw[dm b];decide);have Z:=Kd (S:=aj T) (s:=⟨fL T,T.length+1,T.length+1,t.s⟩) (U:=T++[t]) (by show(aG t.s||aK t.s)=false;rw[(kQ (dF b)).1,(kQ (dF b)).2.1];decide);simp only;rw[y];refine⟨⟨?_,fun x=>?_,?_,?_⟩,xb.none D hk F B ?_⟩
  ·rw[dg,fZ (fun j r=>zm w j r),n2,Ya];exact I.con
  ·rw[dg,fZ (fun j r=>rQ w j r),W,Ya];exact I.var x
  ·simp only[List.map_append,List.map_cons,List.map_nil];exact I.act.push ⟨fL T,T.length+1,T.length+1,t.s⟩ Q (fun j r=>rQ w j r) W
  ·simp only[List.map_append,List.map_cons,List.map_nil];exact I.typ.push ⟨fL T,T.length+1,T.length+1,t.s⟩ Q (fun j r=>zo V j r) n3
  ·rw[y,xH _ w,Z,Ya];exact P
theorem TI(z:jF T (aj T) (aj T).length)(A:oi T (aj T) (aj T).length)(I:vL T (aj T) d)(y:fL T+1=T.length)(v:d.Zbe=[])(k:d.Zbi=false)(D:d.Zbm=lq T (aj T)++[tS T (fL T)])(B:((tS T (fL T)).toList == [])=false)(u:jC (tS T (fL T)) ⟨#[36]⟩=false) :
  eQ (T++[t]) (fL T)=(t.s,T.length+1)/\(if(aG t.s||aK t.s)=true then(0:Int) else 14)=(aJ d t.s).1/\((aJ d t.s).1=0->vL (T++[t]) (aj (T++[t])) (aJ d t.s).2/\xb (T++[t]) (aJ d t.s).2):=by
 have i:eQ (T++[t]) (fL T)=(t.s,T.length+1):=by
  unfold eQ;rw[gI T [t] _ (by omega),u,Xz (by simp;omega),y,pW,<-y]
 have g:∀{n:Int},fC t.s.toList n->(aG t.s||aK t.s)=true->vL (T++[t]) (aj (T++[t])) { d with Zby:=n }/\xb (T++[t]) { d with Zby:=n }:=fun {n} c b=>by
  obtain⟨w,l⟩:=mY (T:=T) (t:=t) c.dep.2.2;have C:fM (T++[t]) (T.length+1) (T++[t]).length=[]:=by rw[nD];simp
  have x:tS (T++[t]) (fL (T++[t]))=tS T (fL T):=by rw[l,gI T [t] _ (by omega)]
  refine⟨by rw[w];exact I.same z A rfl rfl rfl rfl rfl,xb.body t.s (T.length+1) [] (by rw[l];exact i) (by rw[l];omega) (by simp) c C (by rw[j7];exact k) v (fun h=>by rw[show({ d with Zby:=n }:Db).Zbi=d.Zbi from rfl,k]at h;cases h) ?_ (fun _=>by rw[x];exact B)⟩;rw[w,b,XA rfl,t7 z,x];exact D
 refine⟨i,?_⟩;unfold aJ;cases m:(t.s.toList == [36,102])
 ·cases o:(t.s.toList == [36,101])
  ·cases q:(t.s.toList == [36,97])
   ·cases r:(t.s.toList == [36,112])
    ·have b:(aG t.s||aK t.s)=false:=(by unfold aG aK;rw[m,o,q,r];rfl);rw[b];exact⟨rfl,fun h=>by simp at h⟩
    ·have b:(aG t.s||aK t.s)=true:=(by unfold aG aK;rw[r];simp);have c:=fC.p;rw[<-dF r]at c;rw[b];exact⟨rfl,fun _=>g c b⟩
   ·have b:(aG t.s||aK t.s)=true:=(by unfold aG aK;rw[q];simp);have c:=fC.a;rw[<-dF q]at c;rw[b];exact⟨rfl,fun _=>g c b⟩
  ·have b:(aG t.s||aK t.s)=true:=(by unfold aG aK;rw[o];simp);have c:=fC.e;rw[<-dF o]at c;rw[b];exact⟨rfl,fun _=>g c b⟩
 ·have b:(aG t.s||aK t.s)=true:=by unfold aG aK;rw[m];simp
  have c:=fC.f;rw[<-dF m]at c;rw[b];exact⟨rfl,fun _=>g c b⟩
end
end Go.Proofs.YtpdholcaobgofaaGreat
