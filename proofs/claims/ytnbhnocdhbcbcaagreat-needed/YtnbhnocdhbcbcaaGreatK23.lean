import Derived.Test.YtnbhnocdhbcbcaaGreatK05
import Derived.Test.YtnbhnocdhbcbcaaGreatK15
namespace Go.Proofs.YtnbhnocdhbcbcaaGreat
open Go.RowKit Tryz
open Value IntKind Ending
set_option maxHeartbeats 0
variable{z4:Int}{i A:List Tk}{I zt:Nat}{z6 y1:Nat->Bool}{x:List Sm}{u C:Nat->Xt}{z5:Sm}{z3:Xt}{E:Xv}{N z2:Db}{r:List UInt8}{z:Xs}(L:Xs)(o H:List Tk)(F y:List Sm)(D:Nat)(z7:Int)(z0:Xv)(l:Xs)(b:Nat)(y0:Bool)(m:Xt)(w:Xs)(z1:Nat->Bool)(B:Tk)(g:Sm)
def me(nm d:Xs)(i:tC):Tk:=⟨i.text,i.Yl,nm,aU d i.pos,bJ d i.pos⟩
def QA(nm d:Xs):Nat->Nat->List Tk
 | 0,_=>[]
 | f+1,k=>me nm d (bR d k).1 :: (if aM (bR d k).1=true then QA nm d f (bR d k).2 else [])
def n8(nm d:Xs)(k:Nat):List Tk:=QA nm d (d.size-k+1) k
theorem OF(f k:Nat)(a:k<=w.size)(b:w.size-k+1<=f):QA l w f k=n8 l w k:=by
 unfold n8
 suffices h:∀f g k,k<=w.size->w.size-k+1<=f->w.size-k+1<=g->QA l w f k=QA l w g k from h _ _ _ a b (TI _)
 clear b a f k;intro f
 induction f with
 | zero=>intro g k _ h;omega
 | succ f e =>
  intro g k a b i;cases g with
  | zero=>omega
  | succ g =>
   rw[QA,QA];split
   ·next h =>
    have c:=im w k a;have d:=c.2.2 h;rw[e g _ c.2.1 (by omega) (by omega)]
   ·rfl
theorem l8(c:b<=l.size)(h:aM (bR l b).1=true):n8 L l b=me L l (bR l b).1 :: n8 L l (bR l b).2:=by
 have a:=im l b c;have d:=a.2.2 h
 conv=>lhs;unfold n8
 rw[QA,TJ h,OF L l _ _ a.2.1 (by omega)]
theorem kN(h:aM (bR l b).1=false):n8 L l b=[me L l (bR l b).1]:=by
 unfold n8;rw[QA,TH (by simp[h])]
theorem Gr(h:b<l.size)(a:dm (aI l b)=true):bR l b=bR l (b+1):=by
 unfold bR;rw[IX l b h a]
theorem wh(h:b<l.size)(c:dm (aI l b)=true):n8 L l b=n8 L l (b+1):=by
 have e:=Gr l b h c;cases a:aM (bR l b).1
 ·rw[kN L l b a,kN L l (b+1) (by rw[<-e];exact a),e]
 ·rw[l8 L l b (by omega) a,l8 L l (b+1) (by omega) (by rw[<-e];exact a),e]
theorem EP(n:Nat):∀a,(∀j,a<=j->j<a+n->j<w.size/\dm (aI w j)=false/\fV (aI w j)=true)->de w a=de w (a+n):=by
 induction n with
 | zero=>intro a _;rfl
 | succ n c =>
  intro a h;have b:=h a (by omega) (by omega);rw[Jf w a b.1 b.2.1 b.2.2,c (a+1) (fun j d e=>h j (by omega) (by omega))];congr 1;omega
theorem E8(h:rR z4=false)(a:dm z4=false):fV z4=true:=by
 unfold rR at h;rw[a]at h;simpa using h
theorem Ej(a:D<b)(i:b<=L.size)(c:∀j,D<=j->j<b->dm (aI L j)=false/\fV (aI L j)=true)(f:b<L.size->dm (aI L b)=true):bR L D=(⟨L.extract D b,0,false,D⟩,b):=by
 have d:=EP L (b-D) D (fun j e g=>⟨by omega,c j e (by omega)⟩);rw[show D+(b-D)=b by omega]at d;refine Ao L D D b (uC L D (fun h=>?_)).symm d.symm (fun h=>?_) a
 ·rw[(c D (TI _) a).1]at h;simp at h
 ·rw[f h.1]at h;simp at h
theorem po(i:Nat):∀j,dJ w i<=j->j<i->dm (aI w j)=false:=by
 induction i with
 | zero=>intro j _ h;omega
 | succ i c =>
  intro j a d;rw[dJ]at a;split at a
  ·omega
  ·next b =>
   by_cases e:j=i
   ·rw[e];simpa using b
   ·exact c j a (by omega)
theorem y8(i:Nat)(k:i<=w.size)(f:∀j,j<i->rR (aI w j)=false):n8 l w 0=jN l w i++n8 l w (dJ w i):=by
 induction i with
 | zero=>rfl
 | succ i b =>
  have b:=b (by omega) (fun j m=>f j (by omega));rw[jN,dJ];cases a:dm (aI w i)
  ·rw[TH (by simp),TH (by simp)];exact b
  ·rw[TJ rfl,TJ rfl];have n:=pq w i;unfold jO;split
   ·next e =>
    rw[b,e,wh l w i (by omega) a]
   ·next e =>
    have g:=Ej w (dJ w i) i (by omega) (by omega) (fun j c d=>⟨po w i j c d,E8 (f j (by omega)) (po w i j c d)⟩) (fun _=>a);rw[b,l8 l w (dJ w i) (by omega) (by rw[g];rfl),g,<-wh l w i (by omega) a];simp[me,m9]
theorem G8:iY l w=n8 l w 0:=by
 unfold iY;cases d:ke w with
 | some i =>
  unfold ke at d;rw[U8]at d;obtain⟨b,c,r⟩:=d;have c:=TY.1 c;have f:∀j,j<i->rR (aI w j)=false:=fun j m=>by simpa using r j m
  have p:=pq w i;have g:∀j,dJ w i<=j->j<dJ w i+(i-dJ w i)->j<w.size/\dm (aI w j)=false/\fV (aI w j)=true:=fun j b c=>⟨by omega,po w i j b (by omega),E8 (f j (by omega)) (po w i j b (by omega))⟩
  have n:fV (aI w i)=false/\dm (aI w i)=false:=by
   unfold rR at b;simpa using b
  have q:=EP w (i-dJ w i) (dJ w i) g;rw[show dJ w i+(i-dJ w i)=i by omega]at q
  have o:dJ w i=skip w (dJ w i):=(uC w _ (fun h=>by
   by_cases e:dJ w i=i
   ·rw[e,n.2]at h;simp at h
   ·rw[(g (dJ w i) (TI _) (by omega)).2.1]at h;simp at h)).symm
  have k:=Eh w (dJ w i) (dJ w i) i o q.symm c n.2 n.1;simp only;rw[y8 l w i (by omega) f,kN l w (dJ w i) (by rw[k];rfl),k];simp[me,m9]
 | none =>
  have f:∀j,j<w.size->rR (aI w j)=false:=fun j m=>by
   unfold ke at d;rw[US]at d;simpa using d j (TY.2 m)
  have p:=pq w w.size;have a:bR w w.size=(⟨⟨#[]⟩,0,true,w.size⟩,w.size):=Ei w w.size w.size w.size (uC w _ (fun h=>by omega)).symm rfl (fun h=>by omega) (TI _);simp only;rw[y8 l w w.size (TI _) f];unfold jO;split
  ·next e =>
   rw[e,kN l w w.size (by rw[a];rfl),a];simp[me,m9]
  ·next e =>
   have k:=Ej w (dJ w w.size) w.size (by omega) (TI _) (fun j b c=>⟨po w _ j b c,E8 (f j c) (po w _ j b c)⟩) (fun h=>by omega);rw[l8 l w (dJ w w.size) p (by rw[k];rfl),k,kN l w w.size (by rw[a];rfl),a];simp[me,m9]
def Qs(nm d:Xs):Nat->Nat->List Tk
 | 0,_=>[]
 | f+1,k=>me nm d (aC d k).1 :: (if aM (aC d k).1=true then Qs nm d f (aC d k).2 else [])
def mM(nm d:Xs)(k:Nat):List Tk:=Qs nm d (d.size-k+1) k
theorem Oi(f k:Nat)(a:k<=w.size)(b:w.size-k+1<=f):Qs l w f k=mM l w k:=by
 unfold mM
 suffices h:∀f g k,k<=w.size->w.size-k+1<=f->w.size-k+1<=g->Qs l w f k=Qs l w g k from h _ _ _ a b (TI _)
 clear b a f k;intro f
 induction f with
 | zero=>intro g k _ h;omega
 | succ f e =>
  intro g k a b i;cases g with
  | zero=>omega
  | succ g =>
   rw[Qs,Qs];split
   ·next h =>
    have c:=gq w k a;have d:=c.2.2 h;rw[e g _ c.2.1 (by omega) (by omega)]
   ·rfl
theorem kL(c:b<=l.size)(h:aM (aC l b).1=true):mM L l b=me L l (aC l b).1 :: mM L l (aC l b).2:=by
 have a:=gq l b c;have d:=a.2.2 h
 conv=>lhs;unfold mM
 rw[Qs,TJ h,Oi L l _ _ a.2.1 (by omega)]
theorem kK(h:aM (aC l b).1=false):mM L l b=[me L l (aC l b).1]:=by
 unfold mM;rw[Qs,TH (by simp[h])]
theorem GI(j:Nat)(d:b<=l.size)(c:j<=l.size)(h:aC l b=aC l j):mM L l b=mM L l j:=by
 cases a:aM (aC l b).1
 ·rw[kK L l b a,kK L l j (by rw[<-h];exact a),h]
 ·rw[kL L l b d a,kL L l j c (by rw[<-h];exact a),h]
theorem I9(c:UInt8):ii w ⟨#[36,c]⟩=(List.range w.size).any (fun i=>decide (1<=i)&&(aI w (i-1)==36)&&(aI w i==(c.toNat:Int))):=by
 have d:(⟨#[36,c]⟩:Xs).size=2:=rfl;have b:∀i,i+2<=w.size->(tp w ⟨#[36,c]⟩ i=((aI w i==36)&&(aI w (i+1)==(c.toNat:Int)))):=fun i a=>by
  have e:(w.extract i (i+2)).toList=[w[i]'(by omega),w[i+1]'(by omega)]:=by
   apply WQ
   ·rw[UB];simp;omega
   ·intro n m k;simp only[List.length_cons,List.length_nil]at k;have l:n=0∨n=1:=by omega
    simp only[ByteArray.toList_eq,ByteArray.data_extract,Array.getElem_toList,Array.getElem_extract];rcases l with rfl | rfl <;> rfl
  unfold tp;rw[d,e,bY w i (by omega),bY w (i+1) (by omega)];have j:(⟨#[36,c]⟩:Xs).toList=[36,c]:=by rw[UB]
  rw[j];have f:∀x:UInt8,((x.toNat:Int)==36)=(x==36):=fun x=>by
   rw[UY];simp only[beq_iff_eq];constructor
   ·intro h;exact UInt8.toNat_inj.1 (by rw[show x.toNat=36 by omega];rfl)
   ·rintro rfl;rfl
  have g:∀x:UInt8,((x.toNat:Int)==(c.toNat:Int))=(x==c):=fun x=>by
   rw[UY];simp only[beq_iff_eq];constructor
   ·intro h;exact UInt8.toNat_inj.1 (by omega)
   ·rintro rfl;rfl
  rw[f,g];simp[Bool.beq_eq_decide_eq,Bool.decide_and]
 unfold ii;rw[d,UY,UG,UG];constructor
 ·rintro ⟨i,a,h⟩;have a:=TY.1 a;rw[Uc,UU]at h;rw[b i h.1]at h;exact⟨i+1,TY.2 (by omega),by rw[UZ,Uc,Uc,UU];rw[Uc]at h;exact⟨⟨by omega,h.2.1⟩,h.2.2⟩⟩
 ·rintro ⟨i,a,h⟩;have a:=TY.1 a;rw[Uc,Uc,UU]at h;refine⟨i-1,TY.2 (by omega),?_⟩;rw[Uc,UU,b (i-1) (by omega),Uc,show i-1+1=i by omega];exact⟨by omega,h.1.2,h.2⟩
theorem vN:lh w=(ii w ⟨#[36,40]⟩||ii w ⟨#[36,41]⟩):=by
 rw[I9,I9,UY,Uy];unfold lh;simp only[List.any_eq_true,Bool.and_eq_true,Bool.or_eq_true];constructor
 ·rintro ⟨i,c,b,a | a⟩
  ·exact TZ ⟨i,c,b,a⟩
  ·exact TU ⟨i,c,b,a⟩
 ·rintro (⟨i,c,b,a⟩ | ⟨i,c,b,a⟩)
  ·exact⟨i,c,b,TZ a⟩
  ·exact⟨i,c,b,TU a⟩
theorem iQ:ii w ⟨#[36]⟩=dC w:=by
 have b:(⟨#[36]⟩:Xs).size=1:=rfl;have a:∀i,i+1<=w.size->(tp w ⟨#[36]⟩ i=(aI w i==36)):=fun i c=>by
  have e:(w.extract i (i+1)).toList=[w[i]'(by omega)]:=by
   apply WQ
   ·rw[UB];simp;omega
   ·intro n j f;simp only[List.length_cons,List.length_nil]at f;have g:n=0:=by omega
    simp only[ByteArray.toList_eq,ByteArray.data_extract,Array.getElem_toList,Array.getElem_extract];subst g;rfl
  unfold tp;rw[b,e,bY w i (by omega)];have d:(⟨#[36]⟩:Xs).toList=[36]:=by rw[UB]
  rw[d,UY];simp only[beq_iff_eq,List.cons.injEq,and_true];constructor
  ·intro h;rw[h];rfl
  ·intro h;exact UInt8.toNat_inj.1 (by rw[show(w[i]'(by omega)).toNat=36 by omega];rfl)
 unfold ii dC;rw[b,UY,UG,UG];constructor
 ·rintro ⟨i,c,h⟩;rw[Uc,UU]at h;rw[a i h.1]at h;exact⟨i,TY.2 (by omega),h.2⟩
 ·rintro ⟨i,c,h⟩;have c:=TY.1 c;exact⟨i,TY.2 (by omega),by rw[Uc,UU,a i (by omega)];exact⟨by omega,h⟩⟩
theorem uA(c:b<=l.size):(aM (bR l b).1=true->((bR l b).1.text.toList == [])=false/\(bR l b).1.Yl=0)/\(aM (bR l b).1=false->(bR l b).1.text=⟨#[]⟩/\((bR l b).1.Yh=true->(bR l b).1.Yl=0)):=by
 have a:=Ca l b c;have d:=tw l (skip l b) a.2;unfold bR;simp only;split
 ·exact⟨fun h=>by simp[aM]at h,fun _=>⟨rfl,fun h=>by cases h⟩⟩
 ·split
  ·exact⟨fun h=>by simp[aM]at h,fun _=>⟨rfl,fun _=>rfl⟩⟩
  ·next f g =>
   refine⟨fun _=>⟨?_,rfl⟩,fun h=>by simp[aM]at h⟩;have i:(l.extract (skip l b) (de l (skip l b))).size=de l (skip l b)-skip l b:=by
    rw[We];omega
   cases e:((l.extract (skip l b) (de l (skip l b))).toList == [])
   ·rfl
   ·have e:(l.extract (skip l b) (de l (skip l b))).toList=[]:=(by simpa using e);have:=congrArg List.length e;rw[UB]at this;have j:de l (skip l b)-skip l b=0∨l.size-skip l b=0:=(by simpa using this);omega
theorem Mo(f:Nat):∀k,k<=w.size->w.size-k+1<=f ->
  bZ true (n8 l w k)=(if aM (bh w k).1=true then bZ false (n8 l w (bh w k).2) else [me l w (bh w k).1]):=by
 induction f with
 | zero=>intro k _ h;omega
 | succ f o =>
  intro k i r;have j:=im w k i;obtain⟨p,q⟩:=uA w k i;cases a:aM (bR w k).1
  ·obtain⟨d,e⟩:=q a;rw[kN l w k a];cases b:(bR w k).1.Yh
   ·have n:((bR w k).1.Yl==0)=false:=by
     unfold aM at a;rw[b]at a;simpa using a
    rw[vQ w k a b,a,TH (by simp),bZ,TJ (by exact n)];rw[bZ]
   ·rw[tP w k a b,TH (by simp[aM]),bZ,TH (by simp[me,e b]),TH (by simp[me,ET,d]),TJ (by simp[me,ET,d]),bZ];rfl
  ·obtain⟨d,e⟩:=p a;have m:=j.2.2 a;rw[l8 l w k i a];cases c:((bR w k).1.text.toList == [36,41])
   ·cases g:lh (bR w k).1.text
    ·rw[xo w k i a c g,bZ,TH (by simp[me,e]),TH (by simp only[me,ET];rw[c];simp),TH (by simp only[me,ET];rw[d];simp),TH (by rw[<-vN];simp only[me];rw[g];simp)];exact o _ j.2.1 (by omega)
    ·rw[tO w k a c g,TH (by simp[aM]),bZ,TH (by simp[me,e]),TH (by simp only[me,ET];rw[c];simp),TH (by simp only[me,ET];rw[d];simp),TJ (by rw[<-vN];exact g)];rfl
   ·rw[rY w k a c,TJ a,bZ,TH (by simp[me,e]),TJ (by simp only[me,ET];exact c)]
theorem Js(f:Nat):∀k,k<=w.size->w.size-k+1<=f->bZ false (n8 l w k)=mM l w k:=by
 induction f with
 | zero=>intro k _ h;omega
 | succ f j =>
  intro k d q;have i:=im w k d;obtain⟨r,o⟩:=uA w k d;cases b:aM (bR w k).1
  ·obtain⟨m,p⟩:=o b;have a:=sX w k (TZ b);rw[kN l w k b,kK l w k (by rw[a];exact b),a,bZ,TH (by simp[me,ET,m]),bZ]
  ·have n:=i.2.2 b;rw[l8 l w k d b];cases e:((bR w k).1.text.toList == [36,40])
   ·have a:=sX w k (TU e);rw[kL l w k d (by rw[a];exact b),a,bZ,TH (by simp only[me,ET];rw[e];simp),j _ i.2.1 (by omega)]
   ·have g:=jF w (bR w k).2 i.2.1;rw[bZ,TJ (by simp only[me,ET];exact e),Mo l w _ _ i.2.1 (TI _)];cases c:aM (bh w (bR w k).2).1
    ·have a:=vY w k b e c;rw[TH (by simp),kK l w k (by rw[a];exact c),a]
    ·have a:=IL w k d b e c;rw[TJ rfl,j _ g.2 (by omega)];exact(GI l w k _ d g.2 a).symm
theorem Az(a:Fs)(k:Nat):su a k=mM (aG a k) (ak a k) 0:=by
 unfold su;rw[G8];exact Js _ _ _ 0 (Up _) (TI _)
theorem fY(h:b<o.length):tS (o++H) b=tS o b:=by
 unfold tS;rw[TG,TG,Uf h]
theorem oo:tS (H++[B]) H.length=B.s:=by
 unfold tS;rw[TG,Ua (TI _),UM];rfl
theorem Bw(h:b+1<o.length):ee (o++H) b=ee o b:=by
 unfold ee;rw[fY o H b (by omega),fY o H (b+1) h,TO];have a:decide (o.length+H.length<=b+1)=false:=by simp;omega
 have c:decide (o.length<=b+1)=false:=by simp;omega
 rw[a,c]
theorem J2(d:D<=b)(c:b<o.length)(a:cd (tS o b)=true):ee (o++H) D=ee o D:=by
 by_cases e:D=b
 ·subst e;unfold ee;rw[fY o H D c,(lz a).1];simp
 ·exact Bw o H D (by omega)
theorem xY(i:Nat)(c:i<=o.length):fE (o++H) i=fE o i:=by
 induction i with
 | zero=>rfl
 | succ i b =>
  rw[fE,fE,b (by omega),fY o H i (by omega)];cases a:cd (tS o i)
  ·rfl
  ·rw[J2 o H _ i (Ns o i) (by omega) a]
theorem FV(k:Nat):∃M,(fE H (b+k)).1=(fE H b).1++M/\∀m∈M,b<m.z:=by
 induction k with
 | zero=>exact⟨[],by simp,by simp⟩
 | succ k e =>
  obtain⟨M,a,c⟩:=e;rw[show b+(k+1)=(b+k)+1 by omega,fE];split
  ·refine⟨M++[⟨(fE H (b+k)).2,b+k+1,(ee H (fE H (b+k)).2).2,(ee H (fE H (b+k)).2).1⟩],by simp only[a,List.append_assoc],fun m d=>?_⟩;rcases Ut.1 d with h | h
   ·exact c m h
   ·rw[T0.1 h];show b<b+k+1;omega
  ·exact⟨M,a,c⟩
theorem Ax:∃M,aa (o++H)=aa o++M/\∀m∈M,o.length<m.z:=by
 obtain⟨M,a,b⟩:=FV (o++H) o.length H.length;refine⟨M,?_,b⟩;unfold aa;rw[TO,a,xY o H _ (TI _)]
def fA(T:List Tk):Nat:=(fE T T.length).2
theorem F0:fA H=lg (aa H) (aa H).length:=(dN H).fr
theorem nV:aa (H++[B])=(if cd B.s=true then aa H++[⟨fA H,H.length+1,(ee (H++[B]) (fA H)).2,(ee (H++[B]) (fA H)).1⟩] else aa H)/\fA (H++[B])=(if cd B.s=true then H.length+1 else fA H):=by
 unfold aa fA;rw[TO,Uw,UE,fE,xY H [B] H.length (TI _),oo];split <;> exact⟨rfl,rfl⟩
theorem jJ(h:b<F.length):aq (F++y) b=aq F b:=by
 unfold aq;rw[TG,TG,Uf h]
theorem CK(h:b<=F.length):lg (F++y) b=lg F b:=by
 unfold lg;split
 ·rw[jJ F y (b-1) (by omega)]
 ·rfl
theorem Ij(S M:List Sm)(h:∀m∈M,b<m.z):oB b (S++M)=oB b S:=by
 induction S with
 | nil =>
  cases M with
  | nil=>rfl
  | cons m M =>
   have:=h m (by simp)
   show(if m.z<=b then oB b M+1 else 0)=0
   rw[TH (by omega)]
 | cons s S a=>rw[VO,oB,oB,a]
theorem sG(h:b<=F.length):aP (F++y) D b=aP F D b:=by
 unfold aP;by_cases a:D<=F.length
 ·rw[UP a,Vc (by rw[UK];omega)]
 ·rw[show b-D=0 by omega];simp
theorem lU(h:b<=F.length):bA (F++y) b=bA F b:=by
 unfold bA;rw[Vc h]
theorem zI(L M:List Tk)(h:∃u∈L,nW u.s=true):lJ (L++M)=lJ L:=by
 induction L with
 | nil=>obtain⟨u,b,-⟩:=h;cases b
 | cons a L e =>
  rw[VO,lJ,lJ];split
  ·rfl
  ·next d =>
   rw[e];obtain⟨u,b,c⟩:=h;rcases Un.1 b with rfl | b
   ·exact absurd c d
   ·exact⟨u,b,c⟩
theorem Lw(c:dU i I):∃u∈i.drop I,nW u.s=true:=by
 obtain⟨e,d,b,a⟩:=c;refine⟨i[e],?_,?_⟩
 ·rw[List.mem_iff_getElem?];exact⟨e-I,by rw[VP,show I+(e-I)=e by omega,TF b]⟩
 ·unfold tS at a;rw[TG,TF b]at a;exact a
theorem qz(a:dU o b):bu (o++H) b=bu o b:=by
 have c:b<=o.length:=by obtain⟨e,d,f,-⟩:=a;omega
 unfold bu;rw[UP c,zI _ _ (Lw a)]
theorem Lv(f:dU o b):dU (o++H) b:=by
 obtain⟨e,a,c,d⟩:=f;exact⟨e,a,by rw[TO];omega,by rw[fY o H e c];exact d⟩
theorem lS(h:∀j,j<I->z6 j=y1 j):(List.range I).any z6=(List.range I).any y1:=by
 rw[UY,UG,UG];constructor
 ·rintro ⟨j,a,b⟩;exact⟨j,a,by rw[<-h j (TY.1 a)];exact b⟩
 ·rintro ⟨j,a,b⟩;exact⟨j,a,by rw[h j (TY.1 a)];exact b⟩
theorem xD{l:Xv}{q:Nat->Bool}(h:∀j∈l,z6 j=q j):l.find? z6=l.find? q:=by
 induction l with
 | nil=>rfl
 | cons a l c =>
  rw[Xb,Xb,h a (by simp),c (fun j b=>h j (by simp[b]))]
section
variable {T U:List Tk} {S M:List Sm} {n:Nat}
theorem xp(c:n<=S.length)(b:∀j,j<n->((aq S j).k.toList==L.toList)=true->dU T (aq S j).h):jG (T++U) (S++M) L l n y0=jG T S L l n y0:=by
 unfold jG;refine lS (fun j a=>?_);unfold oQ;rw[jJ S M j (by omega),sG S M j n c];cases h:((aq S j).k.toList==L.toList)
 ·rfl
 ·rw[qz T U _ (b j a h)]
theorem uT(a:iZ T S n):eK (T++U) (S++M) w n=eK T S w n:=xp _ w _ a.m (by rw[oY.1];exact a.c)
theorem Jc(a:iZ T S n):iG (T++U) (S++M) w n=iG T S w n:=xp _ w _ a.m (by rw[oY.2];exact a.v)
theorem z8(h:g.a<T.length):bP (T++U) g=bP T g:=by
 unfold bP;rw[fY T U g.a h]
theorem ua(c:iZ T S n):bD (T++U) (S++M) w n=bD T S w n:=by
 unfold bD
 rw[xD (q:=mO T S w) (fun j b=>by
  have b:=TY.1 b;have:=c.m;unfold mO;rw[jJ S M j (by omega),z8 _ (c.a j b)])]
theorem Ay(a:iZ T S n):jM (T++U) (S++M) w n=jM T S w n:=by
 unfold jM;rw[ua w a,uT w a,xp _ w _ a.m (by rw[oY.2];exact a.v)]
theorem JR(b:iZ T S n)(c:mT T S n):gK (T++U) (S++M) w n=gK T S w n:=by
 unfold gK
 rw[xD (q:=rU T S w n) (fun j a=>by
  have a:=TY.1 a;have:=b.m;unfold rU;rw[jJ S M j (by omega),sG S M j n b.m];cases h:((aq S j).k.toList == [36,102])
  ·rfl
  ·rw[fY T U _ (c j a h)])]
theorem Km(a:iZ T S n):j7 (T++U) (S++M) l n y0 m=j7 T S l n y0 m:=by
 unfold j7;rw[Ay l a,ua l a,uT l a,Jc l a]
theorem GG(a:iZ T S n)(b:mT T S n):io (T++U) (S++M) L l n m=io T S L l n m:=by
 unfold io;rw[uT l a,Jc l a,JR l a b]
theorem Ec(a:iZ T S n)(b:mT T S n):mH (T++U) (S++M) L l n m=mH T S L l n m:=by
 unfold mH;rw[Km l _ m a,GG L l m a b]
theorem zT(a:iZ T S n):dD (T++U) (S++M) w n=dD T S w n:=by
 unfold dD;rw[lU S M n a.m,Ay w a]
end
theorem Ig(a:D<=b)(c:b<=o.length):eF (o++H) D b=eF o D b:=by
 unfold eF;rw[UP (by omega),Vc (by rw[UK];omega)]
theorem xl(f:o.length<=100000)(i:Nat)(c:i<o.length)(a:∀j,j<i->aY o (aa o) j=0):aY (o++H) (aa (o++H)) i=aY o (aa o) i:=by
 obtain⟨b,k⟩:=QI o f i c a;obtain⟨M,d,n⟩:=Ax o H;rw[d];generalize aa o=S at *;have g:jE (S++M) i=jE S i:=Ij i S M (fun m l=>by have:=n m l;omega);have p:=Mu S i;unfold aY;rw[g,CK S M _ b.m,fY o H i c];by_cases e:i=lg S (jE S i)
 ·rw[TJ e,TJ e,zT _ b]
 ·rw[TH e,TH e,Bw o H _ (by omega)];split
  ·rfl
  ·next q =>
   rw[Ec _ _ _ b k,Ig o H _ i (by omega) (by omega)]
theorem sI(b:o.length<=100000)(h:∀j,j<o.length->aY o (aa o) j=0):∀j,j<o.length->aY (o++H) (aa (o++H)) j=0:=fun j a=>by
 rw[xl o H b j a (fun q c=>h q (by omega))];exact h j a
def vT(o:Int)(L:List Sm):Int:=L.foldl (fun o s=>aR o s.k) o
theorem zM(c:Int)(k:Xs):aR (z7+c) k=aR z7 k+c:=by
 unfold aR;split <;> split <;> omega
theorem Dh(L:List Sm):∀o c,vT (o+c) L=vT o L+c:=by
 induction L with
 | nil=>intro o c;rfl
 | cons s L a =>
  intro o c;show vT (aR (o+c) s.k) L=vT (aR o s.k) L+c;rw[zM,a]
theorem Jk(L:List Sm)(s:Sm):∀o,rO o (L++[s])=(rO o L&&decide (0<=vT o (L++[s]))):=by
 induction L with
 | nil =>
  intro o
  show(if aR o s.k<0 then false else rO (aR o s.k) [])=(rO o []&&decide (0<=aR o s.k))
  simp only[rO];by_cases h:aR o s.k<0
  ·rw[TJ h];simp;omega
  ·rw[TH h];simp;omega
 | cons a L b =>
  intro o;rw[VO,rO,rO];by_cases h:aR o a.k<0
  ·rw[TJ h,TJ h];rfl
  ·rw[TH h,TH h,b];rfl
theorem Fr(c:D<=b):vT 0 ((y.drop D).take (b-D))=bA y b-bA y D:=by
 have e:y.take b=y.take D++(y.drop D).take (b-D):=by
  rw[show b=D+(b-D) by omega,List.take_add];simp
 have a:bA y b=vT (bA y D) ((y.drop D).take (b-D)):=by
  unfold bA vT;rw[e,VG]
 have:=Dh ((y.drop D).take (b-D)) 0 (bA y D);rw[Int.zero_add]at this;omega
theorem oO(c:D<=b)(d:b<y.length):aP y D (b+1)=(aP y D b&&decide (bA y D<=bA y (b+1))):=by
 have e:(y.drop D).take (b+1-D)=(y.drop D).take (b-D)++[y[b]]:=by
  rw[show b+1-D=(b-D)+1 by omega,UD (by rw[UK];omega),Wn];congr 3;omega
 have a:=Fr y D (b+1) (by omega);unfold aP;rw[e]at a ⊢;rw[Jk,a];congr 1;rw[decide_eq_decide];omega
theorem CC:aP y b b=true:=by
 unfold aP;rw[UM,V8,rO]
theorem AS(n:Nat)(g:b<=n)(i:n<=y.length)(h:aP y b n=true):∀m,b<=m->m<=n->bA y b<=bA y m:=by
 induction n with
 | zero =>
  intro m a d;have e:m=b:=by omega
  rw[e];exact Wo _
 | succ n f =>
  intro m a d;by_cases e:b=n+1
  ·have e:m=b:=(by omega);rw[e];exact Wo _
  ·rw[oO y b n (by omega) (by omega),Uc,UU]at h;by_cases c:m=n+1
   ·rw[c];exact h.2
   ·exact f (by omega) (by omega) h.1 m a (by omega)
def kO(S:List Sm)(n:Nat):Xv:=(List.range n).filter (fun j=>aP S j n)
theorem i9(h:zt∈kO x I):zt<I:=TY.1 (Ux.1 h).1
theorem E4(e:b<=y.length):(kO y b).Pairwise (fun a c=>bA y a<=bA y c):=by
 have h:=(Wg (n:=b)).filter (fun j=>aP y j b);refine h.imp_of_mem (fun {a c} ha d hab=>?_);have d:=i9 d;exact AS y a b (by omega) e (Ux.1 ha).2 c (by omega) (by omega)
theorem GA{f:Nat->Int}(l:Xv)(h:l.Pairwise (fun a b=>f a<=f b)):l=l.filter (fun j=>decide (f j<=z7))++l.filter (fun j=>!decide (f j<=z7)):=by
 induction l with
 | nil=>rfl
 | cons a l c =>
  obtain⟨g,i⟩:=List.pairwise_cons.1 h;have c:=c i;by_cases d:f a<=z7
  ·rw[Vz (by simpa using d),Vn (by simpa using d),VO,<-c]
  ·have e:l.filter (fun j=>decide (f j<=z7))=[]:=by
    rw[Wf];intro b k;have:=g b k;simp;omega
   rw[Vn (by simpa using d),Vz (by simpa using d),e];rw[e]at c;rw[Wh]at c ⊢;rw[<-c]
theorem gj(h:∀j,j<I->z6 j=y1 j):(List.range I).filter z6=(List.range I).filter y1 :=
 Xp (fun j a=>h j (TY.1 a))
theorem iO:bA (y++[g]) (y.length+1)=aR (bA y y.length) g.k:=by
 rw[vR (y++[g]) y.length (by simp),lU y [g] _ (TI _)];congr 2;simp
theorem sF:kO (y++[g]) (y.length+1)=(kO y y.length).filter (fun j=>decide (bA y j<=aR (bA y y.length) g.k))++(if 0<=aR 0 g.k then [y.length] else []):=by
 unfold kO;rw[U9,UV,Xl];congr 1
 ·refine gj (fun j a=>?_);rw[oO (y++[g]) j y.length (by omega) (by simp),sG y [g] j _ (TI _),lU y [g] j (by omega),iO,XA]
 ·have e:aP (y++[g]) y.length (y.length+1)=decide (0<=aR 0 g.k):=by
   rw[oO (y++[g]) y.length y.length (TI _) (by simp),CC,lU y [g] _ (TI _),iO,Vk,decide_eq_decide];have:=zM 0 (bA y y.length) g.k;rw[Int.zero_add]at this;omega
  by_cases h:0<=aR 0 g.k
  ·rw[TJ h,Vz (by rw[e];simpa using h)];rfl
  ·rw[TH h,Vn (by rw[e];simpa using h)];rfl
theorem Jl(a:I<=x.length)(h:zt∈kO x I):bA x zt<=bA x I:=by
 have b:=i9 h;exact AS x zt I (by omega) a (Ux.1 h).2 I (by omega) (TI _)
structure tD(F:Nat->Xt)(S:List Sm)(L:Xt)(B:Xv):Prop where
 l:L=(kO S S.length).flatMap F
 b:(B.length:Int)=bA S S.length
 o:∀i,i<B.length->B[i]?=some (((kO S S.length).filter (fun j=>decide (bA S j<=(i:Int)))).flatMap F).length
theorem dR{l:Xv}{G:Nat->Xt}(h:∀j∈l,u j=G j):l.flatMap u=l.flatMap G:=by
 induction l with
 | nil=>rfl
 | cons a l c=>rw[UI,UI,h a (by simp),c (fun j b=>h j (by simp[b]))]
theorem sN(b:I<=x.length)(c:bA x I<=z4):(kO x I).filter (fun j=>decide (bA x j<=z4))=kO x I :=
 List.filter_eq_self.2 (fun j a=>by have:=Jl b a;simp;omega)
theorem cN:(y++[g]).length=y.length+1:=by simp
theorem qc(b:I<=x.length)(c:Int):(kO x I).filter (fun j=>decide (bA (x++[z5]) j<=c))=(kO x I).filter (fun j=>decide (bA x j<=c)) :=
 Xp (fun j a=>by rw[lU x [z5] j (by have:=i9 a;omega)])
theorem tD.norm(h:tD u x z3 E)(s:Sm)(c:∀o,aR o s.k=o)(d:∀j,j<x.length->C j=u j):tD C (x++[s]) (z3++C x.length) E:=by
 have e:=sF x s;rw[c,c,TJ (Wo _),sN (TI _) (Wo _)]at e;have f:=h.b;refine⟨?_,?_,fun i g=>?_⟩
 ·rw[cN,e,Vi,h.l,dR (fun j a=>d j (i9 a))];simp
 ·rw[cN,iO,c];exact f
 ·rw[cN,e,UV,qc (TI _),Vn (by rw[lU x [s] _ (TI _)];simp;omega),WZ,Uk,dR (fun j a=>d j (i9 (Ux.1 a).1))];exact h.o i g
theorem tD.push(h:tD u x z3 E)(s:Sm)(d:∀o,aR o s.k=o+1)(m:∀j,j<x.length->C j=u j)(g:C x.length=[]):tD C (x++[s]) z3 (E++[z3.length]):=by
 have e:=sF x s;rw[d,d,TJ (by omega),sN (TI _) (by omega)]at e;have r:=h.b;have f:∀p:Nat->Bool,([x.length].filter p).flatMap C=[]:=fun p=>by
  rw[List.flatMap_eq_nil_iff];intro j c;have:=T0.1 (Ux.1 c).1;rw[this];exact g
 refine⟨?_,?_,fun i q=>?_⟩
 ·rw[cN,e,Vi,h.l,dR (fun j c=>m j (i9 c))];simp[g]
 ·rw[cN,iO,d];simp;omega
 ·rw[cN,e,UV,qc (TI _),Vi,f,Uk,dR (fun j c=>m j (i9 (Ux.1 c).1))];simp only[List.length_append,List.length_cons,List.length_nil]at q;by_cases a:i<E.length
  ·rw[Uf a];exact h.o i a
  ·have n:i=E.length:=(by omega);rw[n,Ua (TI _),UM,sN (TI _) (by omega),<-h.l];rfl
theorem tD.pop(h:tD u x z3 (E++[I]))(s:Sm)(d:∀o,aR o s.k=o-1)(g:∀j,j<x.length->C j=u j):tD C (x++[s]) (z3.take I) E:=by
 have e:=sF x s;rw[d,d,TH (by omega),Uk]at e;have r:=h.b;simp only[List.length_append,List.length_cons,List.length_nil]at r;have t:bA x x.length-1=E.length:=by omega
 rw[t]at e;have c:=h.o E.length (by simp);rw[Ua (TI _),UM]at c;have c:I=(((kO x x.length).filter (fun j=>decide (bA x j<=E.length))).flatMap u).length:=by simpa using c
 refine⟨?_,?_,fun i v=>?_⟩
 ·rw[cN,e,dR (G:=u) (fun j a=>g j (i9 (Ux.1 a).1))];have n:=h.l;rw[GA (f:=bA x) (E.length:Int) (kO x x.length) (E4 x _ (TI _)),Vi]at n;rw[n,c,Vc (TI _),U3]
 ·rw[cN,iO,d];omega
 ·rw[cN,e,Xl];have p:(kO x x.length).filter (fun j=>decide (bA (x++[s]) j<=(i:Int))&&decide (bA x j<=E.length))=(kO x x.length).filter (fun j=>decide (bA x j<=(i:Int))) :=
   Xp (fun j a=>by
    rw[lU x [s] j (by have:=i9 a;omega)];by_cases m:bA x j<=(i:Int)
    ·have q:bA x j<=E.length:=(by omega);simp[m,q]
    ·simp[m])
  rw[p,dR (G:=u) (fun j a=>g j (i9 (Ux.1 a).1))];have:=h.o i (by simp;omega);rw[Uf v]at this;exact this
def EH(T:List Tk)(S:List Sm)(j:Nat):Xt:=if((aq S j).k.toList == [36,118])=true then bu T (aq S j).h else []
def JE(T:List Tk)(S:List Sm)(j:Nat):Xt:=if((aq S j).k.toList == [36,99])=true then bu T (aq S j).h else []
def In(T:List Tk)(S:List Sm)(j:Nat):Xt:=if((aq S j).k.toList == [36,102])=true then [tS T ((aq S j).h+1)] else []
def Nj(T:List Tk)(S:List Sm)(j:Nat):Xt:=if((bP T (aq S j)).toList == [])=true then [] else [bP T (aq S j)]
theorem oV(F:Nat->Xt)(l:Xv)(x:Xs):aK (l.flatMap F) x=l.any (fun j=>aK (F j) x):=by
 unfold aK;rw[List.any_flatMap]
theorem ju:aK [] w=false:=rfl
theorem xL(a:Xt)(x:Xs):aK (m++a) x=(aK m x||aK a x):=by
 unfold aK;rw[XH]
theorem sO:aK [l] w=(l.toList==w.toList):=by simp[aK]
theorem vK(q:Nat->Bool):(z0.filter z1).any q=z0.any (fun j=>z1 j&&q j):=by
 rw[List.any_filter]
theorem Jd:iG H y l b=aK ((kO y b).flatMap (EH H y)) l:=by
 rw[oV];unfold kO;rw[vK];unfold iG jG;refine lS (fun j a=>?_);unfold oQ EH;rw[oY.2];cases h:((aq y j).k.toList == [36,118])
 ·rw[TH (by simp),ju];simp
 ·rw[TJ rfl];simp[Bool.and_comm]
theorem uU:eK H y l b=aK ((List.range b).flatMap (JE H y)) l:=by
 rw[oV];unfold eK jG;refine lS (fun j a=>?_);unfold oQ JE;rw[oY.1];cases h:((aq y j).k.toList == [36,99])
 ·rw[TH (by simp),ju];simp
 ·rw[TJ rfl];simp
theorem E7:jG H y ⟨#[36,118]⟩ l b false=aK ((List.range b).flatMap (EH H y)) l:=by
 rw[oV];unfold jG;refine lS (fun j a=>?_);unfold oQ EH;rw[oY.2];cases h:((aq y j).k.toList == [36,118])
 ·rw[TH (by simp),ju];simp
 ·rw[TJ rfl];simp
theorem Ph:(match z0.find? z1 with | some j=>(j:Int) | none=>-1)=-1 ↔ z0.any z1=false:=by
 cases h:z0.find? z1 with
 | none=>simp only[true_iff];rw[Wm];rw[US]at h;exact h
 | some j =>
  have a:=Vq h;have b:=UC h;have c:z0.any z1=true:=UG.2 ⟨j,b,a⟩;rw[c];simp only[Bool.true_eq_false,iff_false];intro d;have:(0:Int)<=(j:Int):=by omega
  omega
theorem Iv:decide (0<=(match z0.find? z1 with | some j=>(j:Int) | none=>-1))=z0.any z1:=by
 cases h:z0.find? z1 with
 | none =>
  have:=(Ph z0 z1).1 (by rw[h]);rw[this];rfl
 | some j =>
  have a:z0.any z1=true:=UG.2 ⟨j,UC h,Vq h⟩;rw[a];simp
theorem ub:decide (0<=bD H y l b)=aK ((List.range b).flatMap (Nj H y)) l:=by
 rw[oV];unfold bD;refine(Iv (List.range b) (mO H y l)).trans ?_;refine lS (fun j a=>?_);unfold mO Nj;cases h:((bP H (aq y j)).toList == [])
 ·rw[TH (by simp),sO];simp
 ·rw[TJ rfl,ju];simp
theorem JS:decide (0<=gK H y l b)=aK ((kO y b).flatMap (In H y)) l:=by
 rw[oV];unfold kO;rw[vK];unfold gK;refine(Iv (List.range b) (rU H y l b)).trans ?_;refine lS (fun j a=>?_);unfold rU In;cases h:((aq y j).k.toList == [36,102])
 ·rw[TH (by simp),ju];simp
 ·rw[TJ rfl,sO];simp[Bool.and_comm]
theorem BG(d:H.length<=100000)(b:∀j,j<H.length->aY H (aa H) j=0):iZ H (aa H) (aa H).length/\mT H (aa H) (aa H).length:=by
 have p:=dN H;have f:(aa H).length<=H.length:=om H H.length;generalize aa H=S at *;have c:=fun j (a:j<S.length)=>EM p j a (fun q _ e=>b q (by have:=(p.s j a).2;omega));refine⟨⟨TI _,by omega,d,fun j a=>(c j a).1,fun j a=>(c j a).2.1,fun j a=>?_⟩,fun j a=>(c j a).2.2⟩;have:=(p.s j a).1.lt;have:=(p.s j a).2;omega
structure tA(T:List Tk)(S:List Sm)(d:Db):Prop where
 con:d.XO=(List.range S.length).flatMap (JE T S)
 var:∀x,aK d.XP x=aK ((List.range S.length).flatMap (EH T S)) x
 act:tD (EH T S) S d.XW (d.Yf.map (·.1))
 typ:tD (In T S) S d.XZ (d.Yf.map (·.2))
def ki(T:List Tk)(S:List Sm):Xt:=(List.range S.length).flatMap (Nj T S)
def fm(l:List UInt8)(k:Int):Prop:=(l=[36,99]/\k=7)∨(l=[36,118]/\k=8)∨(l=[36,100]/\k=1)∨(l=[36,102]/\k=2)∨(l=[36,101]/\k=3)∨(l=[36,97]/\k=4)∨(l=[36,112]/\k=5)
theorem fm.c:fm [36,99] 7:=by simp[fm]
theorem fm.v:fm [36,118] 8:=by simp[fm]
theorem fm.d:fm [36,100] 1:=by simp[fm]
theorem fm.f:fm [36,102] 2:=by simp[fm]
theorem fm.e:fm [36,101] 3:=by simp[fm]
theorem fm.a:fm [36,97] 4:=by simp[fm]
theorem fm.p:fm [36,112] 5:=by simp[fm]
def jz(y:Xs):Bool:=!(y.toList == [36,61])
def uK(T:List Tk)(d:Db):Prop :=
 (fA T=T.length/\d.Yd=0/\d.XM=[]/\d.XQ=false/\d.XV=ki T (aa T)) ∨
 (fA T+1=T.length/\d.Yd=6/\d.XM=[]/\d.XQ=false/\d.XV=ki T (aa T)++[tS T (fA T)]/\((tS T (fA T)).toList == [])=false/\ii (tS T (fA T)) ⟨#[36]⟩=false) ∨
 ∃(key:Xs) (head:Nat) (B:Xt),ee T (fA T)=(key,head)/\fA T<head/\head<=T.length/\fm key.toList d.Yd/\eF T head T.length=B/\d.XQ=aK B ⟨#[36,61]⟩/\d.XM=B.takeWhile jz/\(d.XQ=true->d.Yd=5/\d.XM≠[]) /\
  d.XV=ki T (aa T)++(if(aA key||aH key)=true then [tS T (fA T)] else [])/\((aA key||aH key)=true->((tS T (fA T)).toList == [])=false)
theorem uK.none(a:fA i=i.length)(b:N.Yd=0)(c:N.XM=[])(d:N.XQ=false)(e:N.XV=ki i (aa i)):uK i N:=TZ ⟨a,b,c,d,e⟩
theorem uK.lab(a:fA i+1=i.length)(b:N.Yd=6)(c:N.XM=[])(d:N.XQ=false)(e:N.XV=ki i (aa i)++[tS i (fA i)])(f:((tS i (fA i)).toList == [])=false)(g:ii (tS i (fA i)) ⟨#[36]⟩=false):uK i N:=TU (TZ ⟨a,b,c,d,e,f,g⟩)
theorem uK.body(c:ee i (fA i)=(l,b))(d:fA i<b)(e:b<=i.length)(f:fm l.toList N.Yd)(g:eF i b i.length=m)(j:N.XQ=aK m ⟨#[36,61]⟩)(k:N.XM=m.takeWhile jz)(n:N.XQ=true->N.Yd=5/\N.XM≠[])(o:N.XV=ki i (aa i)++(if(aA l||aH l)=true then [tS i (fA i)] else []))(a:(aA l||aH l)=true->((tS i (fA i)).toList == [])=false):uK i N:=TU (TU ⟨l,b,m,c,d,e,f,g,j,k,n,o,a⟩)
theorem tD.congr(h:tD u x z3 E)(c:∀j,j<x.length->C j=u j):tD C x z3 E :=
 ⟨by rw[dR (G:=u) (fun j a=>c j (i9 a))];exact h.l,h.b,fun i d=>by rw[dR (G:=u) (fun j a=>c j (i9 (Ux.1 a).1))];exact h.o i d⟩
section
variable {T U:List Tk} {S M:List Sm}
theorem pT(b:iZ T S S.length)(j:Nat)(a:j<S.length):EH (T++U) (S++M) j=EH T S j:=by
 unfold EH;rw[jJ S M j a];split
 ·next h=>rw[qz T U _ (b.v j a h)]
 ·rfl
theorem wF(b:iZ T S S.length)(j:Nat)(a:j<S.length):JE (T++U) (S++M) j=JE T S j:=by
 unfold JE;rw[jJ S M j a];split
 ·next h=>rw[qz T U _ (b.c j a h)]
 ·rfl
theorem wH(b:mT T S S.length)(j:Nat)(a:j<S.length):In (T++U) (S++M) j=In T S j:=by
 unfold In;rw[jJ S M j a];split
 ·next h=>rw[fY T U _ (b j a h)]
 ·rfl
theorem IF(c:iZ T S S.length)(j:Nat)(b:j<S.length):Nj (T++U) (S++M) j=Nj T S j:=by
 unfold Nj;rw[jJ S M j b,z8 _ (c.a j b)]
end
theorem pM(h:∀j,j<I->C j=u j):(List.range I).flatMap C=(List.range I).flatMap u:=dR (fun j a=>h j (TY.1 a))
theorem fJ(h:∀j,j<I->C j=u j):(List.range (I+1)).flatMap C=(List.range I).flatMap u++C I:=by
 rw[U9,Vi,pM h];simp
theorem rC(b:iZ i x x.length):ki (i++A) x=ki i x:=by
 unfold ki;exact pM (fun j a=>by have:=IF (U:=A) (M:=[]) b j a;rw[Uk]at this;exact this)
theorem vh(b:iZ i x x.length):ki (i++A) (x++[g])=ki i x++Nj (i++A) (x++[g]) x.length:=by
 unfold ki;rw[cN];exact fJ (fun j a=>IF b j a)
theorem tA.same(h:tA i x N)(d:iZ i x x.length)(m:mT i x x.length)(e:z2.XO=N.XO)(f:z2.XP=N.XP)(g:z2.XW=N.XW)(k:z2.XZ=N.XZ)(b:z2.Yf=N.Yf):tA (i++A) x z2:=by
 have c:∀j,j<x.length->EH (i++A) x j=EH i x j:=fun j a=>by have:=pT (U:=A) (M:=[]) d j a;rw[Uk]at this;exact this
 have l:∀j,j<x.length->JE (i++A) x j=JE i x j:=fun j a=>by have:=wF (U:=A) (M:=[]) d j a;rw[Uk]at this;exact this
 have n:∀j,j<x.length->In (i++A) x j=In i x j:=fun j a=>by have:=wH (U:=A) (M:=[]) m j a;rw[Uk]at this;exact this
 exact⟨by rw[e,pM l];exact h.con,fun o=>by rw[f,pM c];exact h.var o,by rw[g,b];exact h.act.congr c,by rw[k,b];exact h.typ.congr n⟩
theorem lx:aq (y++[g]) y.length=g:=vy y g
theorem tA.close(h:tA i x N)(c:iZ i x x.length)(n:mT i x x.length)(s:Sm)(e:∀o,aR o s.k=o)(f:z2.XO=N.XO++JE (i++A) (x++[s]) x.length)(g:∀b,aK z2.XP b=(aK N.XP b||aK (EH (i++A) (x++[s]) x.length) b))(l:z2.XW=N.XW++EH (i++A) (x++[s]) x.length)(m:z2.XZ=N.XZ++In (i++A) (x++[s]) x.length)(d:z2.Yf=N.Yf):tA (i++A) (x++[s]) z2 :=
 ⟨by rw[cN,fJ (fun j a=>wF c j a),<-h.con];exact f,fun b=>by rw[cN,fJ (fun j a=>pT c j a),xL,<-h.var];exact g b,
  by rw[l,d];exact h.act.norm s e (fun j a=>pT c j a),by rw[m,d];exact h.typ.norm s e (fun j a=>wH n j a)⟩
theorem CO(g:H.length<=100000)(a:∀j,j<H.length->aY H (aa H) j=0):aY (H++[B]) (aa (H++[B])) H.length =
  if H.length=fA H then dD H (aa H) B.s (aa H).length
  else if H.length<(ee (H++[B]) (fA H)).2 then(if(aA B.s||aH B.s)=true then 0 else 14)
  else mH H (aa H) (ee (H++[B]) (fA H)).1 B.s (aa H).length (eF H (ee (H++[B]) (fA H)).2 H.length):=by
 obtain⟨d,k⟩:=BG H g a;obtain⟨M,f,l⟩:=Ax H [B];have p:=dN H;rw[f,F0];generalize aa H=S at *;have i:jE (S++M) H.length=S.length:=by
  unfold jE;rw[Ij H.length S M l];exact MD _ S S.length (fun q b=>⟨aq S q,IZ S q b,(p.s q b).2⟩) (fun s c=>by rw[UA (TI _)]at c;cases c)
 unfold aY;rw[i,CK S M _ (TI _),oo];by_cases e:H.length=lg S S.length
 ·rw[TJ e,TJ e,zT _ d]
 ·rw[TH e,TH e];split
  ·rfl
  ·next m=>rw[Ec _ _ _ d k,Ig H [B] _ _ (by omega) (TI _)]
theorem Ez(h:tA i x N)(b:N.XV=ki i x)(a:Xs):jM i x a x.length=eC N a:=by
 unfold jM eC;rw[ub,uU,E7,<-h.con,<-h.var,b,Wk];rfl
theorem Lz(h:tA i x N)(b:N.XV=ki i x)(a:Xs):(decide (0<=bD i x a x.length)||(eK i x a x.length||iG i x a x.length))=fc N a:=by
 unfold fc;rw[ub,uU,Jd,<-h.con,<-h.act.l,b,Wk];rfl
theorem C0(h:tA i x N):bA x x.length=(N.Yf.length:Int):=by
 have:=h.act.b;rw[Uh]at this;exact this.symm
theorem sK(h:z.toList=r)(o:Int):aR o z=if(r == [36,125])=true then(if(r == [36,123])=true then o+1 else o)-1 else(if(r == [36,123])=true then o+1 else o):=by
 unfold aR;rw[h]
theorem jW{k:Xs}(h:k.toList=r):aA k=((r == [36,97])||(r == [36,112]))/\aH k=((r == [36,102])||(r == [36,101]))/\cd k=((r == [36,46])||(r == [36,123])||(r == [36,125])):=by
 unfold aA aH cd;rw[h];exact⟨rfl,rfl,rfl⟩
theorem GE(h:z.toList=r):ii z ⟨#[36]⟩=ii ⟨r.toArray⟩ ⟨#[36]⟩:=by
 rw[qJ (x:=z) (l:=r) (by rw[h];simp)]
theorem fm.dep(h:fm z.toList z4):(∀o,aR o z=o)/\ii z ⟨#[36]⟩=true/\cd z=false:=by
 generalize hl:z.toList=l at h;have a:=fun o=>sK hl o;have b:=GE hl;have c:=(jW hl).2.2
 (rcases h with ⟨rfl,rfl⟩ | ⟨rfl,rfl⟩ | ⟨rfl,rfl⟩ | ⟨rfl,rfl⟩ | ⟨rfl,rfl⟩ | ⟨rfl,rfl⟩ | ⟨rfl,rfl⟩) <;> exact⟨fun o=>a o,b.trans (by decide +kernel),c⟩
section
variable {T:List Tk} {t:Tk} {d:Db}
theorem DK(b:fA T=T.length)(a:ii t.s ⟨#[36]⟩=true):ee (T++[t]) (fA T)=(t.s,T.length+1):=by
 unfold ee;rw[b,oo,a];simp
theorem oX(a:ee T (fA T)=(z,I))(f:fA T<I)(g:I<=T.length)(d:fm z.toList z4):ee (T++[t]) (fA T)=(z,I):=by
 rw[<-a];by_cases h:fA T+1<T.length
 ·exact Bw T [t] _ h
 ·have e:ee T (fA T)=(tS T (fA T),fA T+1):=by
   unfold ee;rw[TJ (by simp;right;omega)]
  rw[a]at e;have c:z=tS T (fA T):=congrArg Prod.fst e;have b:=d.dep.2.1;rw[c]at b;unfold ee;rw[fY T [t] _ (by omega),b];simp
theorem ma(T:List Tk)(h:Nat):eF T h T.length=(T.drop h).map (·.s):=by
 unfold eF;rw[Vt (by rw[UK];exact TI _)]
theorem Mt(t:Tk)(h:Nat)(a:h<=T.length):eF (T++[t]) h (T++[t]).length=eF T h T.length++[t.s]:=by
 rw[ma,ma,UP a];simp
theorem tJ(L:List Tk)(t:Tk)(c:∀u∈L,(u.s.toList == [36,46])=false)(e:(t.s.toList == [36,46])=true):lJ (L++[t])=(L.map (·.s)).takeWhile jz:=by
 induction L with
 | nil=>rw[Wh,lJ,TJ (uE e)];rfl
 | cons a L g =>
  have d:=c a (by simp);rw[VO,lJ,VB];cases b:(a.s.toList == [36,61])
  ·rw[TH (by unfold nW;rw[d,b];simp),Vp (by unfold jz;rw[b];rfl),g (fun u f=>c u (by simp[f]))]
  ·rw[TJ (by unfold nW;rw[b];rfl),VK (by unfold jz;rw[b];simp)]
theorem vo(T:List Tk)(h:Nat)(a:fA T<=h):∀u∈T.drop h,cd u.s=false:=by
 intro u c;obtain⟨q,b,e⟩:=UL c;rw[UK]at b;have:=(dN T).n (h+q) (by unfold fA at a;omega) (by omega);rw[Wn]at e;unfold tS at this;rw[TG,TF (by omega)]at this;rw[<-e];exact this
theorem M1(h:aK m ⟨#[36,61]⟩=false):∀y∈m,jz y=true:=by
 intro y a;unfold aK at h;rw[Wm]at h;have:=h y a;have e:(⟨#[36,61]⟩:Xs).toList=[36,61]:=by decide +kernel
 rw[e]at this;unfold jz;simpa using this
theorem LK(B:Xt)(h:∀y∈B,jz y=true):B.takeWhile jz=B:=by
 induction B with
 | nil=>rfl
 | cons a B c=>rw[Vp (h a (by simp)),c (fun y b=>h y (by simp[b]))]
theorem tZ(h:aK m ⟨#[36,61]⟩=false):m.takeWhile jz=m:=LK m (M1 m h)
theorem Om(B:Xt)(y:Xs)(h:aK B ⟨#[36,61]⟩=true):(B++[y]).takeWhile jz=B.takeWhile jz:=by
 have e:(⟨#[36,61]⟩:Xs).toList=[36,61]:=by decide +kernel
 induction B with
 | nil=>cases h
 | cons a B d =>
  rw[VO];cases b:(a.toList == [36,61])
  ·have c:aK B ⟨#[36,61]⟩=true:=by
    unfold aK at h ⊢;rw[V6,e,b,U0]at h;rw[e];exact h
   rw[Vp (by unfold jz;rw[b];rfl),Vp (by unfold jz;rw[b];rfl),d c]
  ·rw[VK (by unfold jz;rw[b];simp),VK (by unfold jz;rw[b];simp)]
end
theorem cI{m:List UInt8}(h:(z.toList==r)=true):(z.toList==m)=(r==m):=by
 have:z.toList=r:=by simpa using h
 rw[this]
theorem dr(h:(z.toList==r)=true):z.toList=r:=by simpa using h
section
variable {T:List Tk} {t:Tk} {d:Db}
theorem nz(d:fA T=T.length)(c:cd t.s=true):aa (T++[t])=aa T++[⟨fA T,T.length+1,T.length+1,t.s⟩]/\fA (T++[t])=(T++[t]).length:=by
 obtain⟨a,b⟩:=nV T t;rw[TJ c,DK d (lz c).1]at a;rw[TJ c]at b;exact⟨a,by rw[b];simp⟩
theorem lX(c:cd t.s=false):aa (T++[t])=aa T/\fA (T++[t])=fA T:=by
 obtain⟨a,b⟩:=nV T t;rw[TH (by rw[c];simp)]at a b;exact⟨a,b⟩
theorem QP{S:List Sm}{s:Sm}{U:List Tk}(a:(s.k.toList == [36,118])=false)(b:(s.k.toList == [36,99])=false)(c:(s.k.toList == [36,102])=false):EH U (S++[s]) S.length=[]/\JE U (S++[s]) S.length=[]/\In U (S++[s]) S.length=[]:=by
 unfold EH JE In;rw[lx,a,b,c];exact⟨rfl,rfl,rfl⟩
theorem FD{S:List Sm}{s:Sm}{U:List Tk}(h:(aA s.k||aH s.k)=false):Nj U (S++[s]) S.length=[]:=by
 have e:bP U s=⟨#[]⟩:=by unfold bP;rw[h,TH (by simp)]
 unfold Nj;rw[lx,e,TJ pK]
theorem Pw(h:(aA z5.k||aH z5.k)=true)(b:((tS i z5.a).toList == [])=false):Nj i (x++[z5]) x.length=[tS i z5.a]:=by
 have e:bP i z5=tS i z5.a:=by unfold bP;rw[h,TJ rfl]
 unfold Nj;rw[lx,e,TH (by rw[b];simp)]
theorem GD(w:iZ T (aa T) (aa T).length)(R:mT T (aa T) (aa T).length)(I:tA T (aa T) d)(M:fA T=T.length)(hk:d.Yd=0)(F:d.XM=[])(B:d.XQ=false)(O:d.XV=ki T (aa T))(hx:(t.s.toList == [])=false) :
  dD T (aa T) t.s (aa T).length=(ay d t.s).1/\((ay d t.s).1=0->tA (T++[t]) (aa (T++[t])) (ay d t.s).2/\uK (T++[t]) (ay d t.s).2):=by
 have E:=C0 I;have ac:=Ez I O t.s
 -- a keyword of a statement without a Ye
 have G:∀{n:Int} {Q:Db},fm t.s.toList n->(aA t.s||aH t.s)=false->Q={ d with Yd:=n }->tA (T++[t]) (aa (T++[t])) Q/\uK (T++[t]) Q:=fun {n Q} u H e=>by
  obtain⟨y,D⟩:=lX (T:=T) (t:=t) u.dep.2.2;have N:ee (T++[t]) (fA (T++[t]))=(t.s,T.length+1):=by rw[D];exact DK M u.dep.2.1
  have hB:eF (T++[t]) (T.length+1) (T++[t]).length=[]:=by rw[ma];simp
  subst e;refine⟨by rw[y];exact I.same w R rfl rfl rfl rfl rfl,uK.body t.s (T.length+1) [] N (by rw[D];omega) (by simp) u hB (by rw[ju];exact B) F (fun h=>by rw[B]at h;cases h) ?_ (fun h=>by rw[H]at h;cases h)⟩;rw[y,H,TH (by simp),Uk,rC w];exact O
 cases b:(t.s.toList == [36,123])
 ·cases f:(t.s.toList == [36,125])
  ·cases l:(t.s.toList == [36,99])
   ·cases g:(t.s.toList == [36,118])
    ·cases m:(t.s.toList == [36,100])
     ·cases z:(aA t.s||aH t.s)
      ·have h7:(t.s.toList == [36,102])=false/\(t.s.toList == [36,101])=false/\(t.s.toList == [36,97])=false/\(t.s.toList == [36,112])=false:=by
        unfold aA aH at z;simp only[Bool.or_eq_false_iff]at z;exact⟨z.2.1,z.2.2,z.1.1,z.1.2⟩
       obtain⟨g1,g2,g3,g4⟩:=h7;have k:ay d t.s=bU d t.s:=by
        unfold ay;rw[b,f,l,g,m,g1,g2,g3,g4];simp
       have i:dD T (aa T) t.s (aa T).length=if ii t.s ⟨#[36]⟩=true then 8 else if iz t.s=false then 12 else if eC d t.s=true then 13 else 0:=by
        unfold dD;rw[b,f,l,g,m,z,ac];simp
       rw[k,i,iQ];unfold bU;cases k1:dC t.s
       ·cases k2:iz t.s
        ·exact⟨rfl,fun h=>by simp at h⟩
        ·cases k3:eC d t.s
         ·refine⟨rfl,fun _=>?_⟩;have C:cd t.s=false:=by
           cases K:cd t.s
           ·rfl
           ·have:=(lz K).1;rw[iQ,k1]at this;cases this
          obtain⟨y,D⟩:=lX (T:=T) (t:=t) C;have X:tS (T++[t]) (fA (T++[t]))=t.s:=(by rw[D,M,oo]);simp only[Bool.false_eq_true,if_false];exact⟨by rw[y];exact I.same w R rfl rfl rfl rfl rfl,uK.lab (by rw[D,M];simp) rfl F B (by rw[X,y,rC w,<-O];rfl) (by rw[X];exact hx) (by rw[X,iQ];exact k1)⟩
         ·exact⟨rfl,fun h=>by simp at h⟩
       ·exact⟨rfl,fun h=>by simp at h⟩
      ·have k:ay d t.s=(11,d):=by
        unfold ay;rw[b,f,l,g,m];unfold aA aH at z;rw[TH (by simp),TH (by simp),TH (by simp),TH (by simp),TH (by simp),TJ];simp only[Bool.or_eq_true]at z;rcases z with (h | h) | (h | h)
        ·exact TU (TU (TZ h))
        ·exact TU (TU (TU h))
        ·exact TZ h
        ·exact TU (TZ h)
       have i:dD T (aa T) t.s (aa T).length=11:=by
        unfold dD;rw[b,f,l,g,m,z];simp
       rw[k,i];exact⟨rfl,fun h=>by cases h⟩
     ·have u:=fm.d;rw[<-dr m]at u;have k:ay d t.s=(0,{ d with Yd:=1 }):=by
       unfold ay;rw[b,f,l,g,m];simp
      have i:dD T (aa T) t.s (aa T).length=0:=by
       unfold dD;rw[m];simp
      rw[k,i];exact⟨rfl,fun _=>G u (by rw[(jW (dr m)).1,(jW (dr m)).2.1];decide) rfl⟩
    ·have u:=fm.v;rw[<-dr g]at u;have k:ay d t.s=(0,{ d with Yd:=8 }):=by
      unfold ay;rw[b,f,l,g];simp
     have i:dD T (aa T) t.s (aa T).length=0:=by
      unfold dD;rw[g];simp
     rw[k,i];exact⟨rfl,fun _=>G u (by rw[(jW (dr g)).1,(jW (dr g)).2.1];decide) rfl⟩
   ·have u:=fm.c;rw[<-dr l]at u;have g:(t.s.toList == [36,118])=false:=by rw[cI l];decide
    have m:(t.s.toList == [36,100])=false:=(by rw[cI l];decide);by_cases A:0<d.Yf.length
    ·have k:ay d t.s=(10,d):=by
      unfold ay;rw[b,f,l];simp[A]
     have i:dD T (aa T) t.s (aa T).length=10:=by
      unfold dD;rw[b,f,l,g,m,E,U6 (show(0:Int)<(d.Yf.length:Int) by omega)];simp
     rw[k,i];exact⟨rfl,fun h=>by cases h⟩
    ·have k:ay d t.s=(0,{ d with Yd:=7 }):=by
      unfold ay;rw[b,f,l,TH (by simp),TH (by simp),TJ rfl,TH A]
     have i:dD T (aa T) t.s (aa T).length=0:=by
      unfold dD;rw[b,f,l,g,m,E,Ve (show ¬(0:Int)<(d.Yf.length:Int) by omega)];simp
     rw[k,i];exact⟨rfl,fun _=>G u (by rw[(jW (dr l)).1,(jW (dr l)).2.1];decide) rfl⟩
  ·have g:(t.s.toList == [36,118])=false:=(by rw[cI f];decide);have m:(t.s.toList == [36,100])=false:=(by rw[cI f];decide);have K:cd t.s=true:=(by rw[(jW (dr f)).2.2];decide);have k:ay d t.s=(match d.Yf.getLast? with | none=>(9,d) | some p=>(0,cQ d p)):=by
    unfold ay;rw[b,f,TH (by simp),TJ rfl];rfl
   cases A:d.Yf.getLast? with
   | none =>
    have J:d.Yf.length=0:=(by rw[List.getLast?_eq_none_iff]at A;rw[A];rfl);have i:dD T (aa T) t.s (aa T).length=9:=by
     unfold dD;rw[b,f,g,m,E,J];simp
    rw[k,i,A];exact⟨rfl,fun h=>by cases h⟩
   | some q =>
    have C:d.Yf≠[]:=fun e=>by rw[e]at A;cases A
    have Y:d.Yf=d.Yf.dropLast++[q]:=by
     have:=Wi C;rw[VR C]at A;cases A
     exact this.symm
    have J:0<d.Yf.length:=Wv.2 C;have i:dD T (aa T) t.s (aa T).length=0:=by
     unfold dD;rw[b,f,g,m,E,show((d.Yf.length:Int)==0)=false by simp;omega];simp
    rw[k,i,A];refine⟨rfl,fun _=>?_⟩;obtain⟨y,D⟩:=nz (T:=T) (t:=t) M K;have P:∀o,aR o t.s=o-1:=fun o=>by rw[sK (dr f)];rfl
    obtain⟨V,n2,n3⟩:=QP (S:=aa T) (s:=⟨fA T,T.length+1,T.length+1,t.s⟩) (U:=T++[t]) g (by show(t.s.toList==_)=false;rw[cI f];decide) (by show(t.s.toList==_)=false;rw[cI f];decide);have Z:=FD (S:=aa T) (s:=⟨fA T,T.length+1,T.length+1,t.s⟩) (U:=T++[t]) (by show(aA t.s||aH t.s)=false;rw[(jW (dr f)).1,(jW (dr f)).2.1];decide);have H:=I.act;have hy:=I.typ;rw[Y,Uu]at H hy;have L:(cQ d q).XO=d.XO/\(cQ d q).XP=d.XP/\(cQ d q).XW=d.XW.take q.1/\(cQ d q).XZ=d.XZ.take q.2/\(cQ d q).Yf=d.Yf.dropLast/\(cQ d q).Yd=d.Yd/\(cQ d q).XM=d.XM/\(cQ d q).XQ=d.XQ/\(cQ d q).XV=d.XV:=by
     unfold cQ dw;split <;> exact⟨rfl,rfl,rfl,rfl,rfl,rfl,rfl,rfl,rfl⟩
    obtain⟨d1,d2,d3,d4,d5,d6,d7,d8,d9⟩:=L;simp only;rw[y];refine⟨⟨?_,fun x=>?_,?_,?_⟩,uK.none D (by rw[d6];exact hk) (by rw[d7];exact F) (by rw[d8];exact B) ?_⟩
    ·rw[d1,cN,fJ (fun j r=>wF w j r),n2,Uk];exact I.con
    ·rw[d2,cN,fJ (fun j r=>pT w j r),V,Uk];exact I.var x
    ·rw[d3,d5];exact H.pop ⟨fA T,T.length+1,T.length+1,t.s⟩ P (fun j r=>pT w j r)
    ·rw[d4,d5];exact hy.pop ⟨fA T,T.length+1,T.length+1,t.s⟩ P (fun j r=>wH R j r)
    ·rw[d9,y,vh _ w,Z,Uk];exact O
 ·have g:(t.s.toList == [36,118])=false:=by rw[cI b];decide
  have K:cd t.s=true:=by rw[(jW (dr b)).2.2];decide
  have k:ay d t.s=(0,{ d with Yf:=d.Yf++[(d.XW.length,d.XZ.length)],rbl:=d.rbl++[d.Ya.length] }):=by
   unfold ay;rw[b,TJ rfl]
  have i:dD T (aa T) t.s (aa T).length=0:=by
   unfold dD;rw[b];simp
  rw[k,i];refine⟨rfl,fun _=>?_⟩;obtain⟨y,D⟩:=nz (T:=T) (t:=t) M K;have P:∀o,aR o t.s=o+1:=fun o=>by rw[sK (dr b)];rfl
  obtain⟨V,n2,n3⟩:=QP (S:=aa T) (s:=⟨fA T,T.length+1,T.length+1,t.s⟩) (U:=T++[t]) g (by show(t.s.toList==_)=false;rw[cI b];decide) (by show(t.s.toList==_)=false;rw[cI b];decide);have Z:=FD (S:=aa T) (s:=⟨fA T,T.length+1,T.length+1,t.s⟩) (U:=T++[t]) (by show(aA t.s||aH t.s)=false;rw[(jW (dr b)).1,(jW (dr b)).2.1];decide);simp only;rw[y];refine⟨⟨?_,fun x=>?_,?_,?_⟩,uK.none D hk F B ?_⟩
  ·rw[cN,fJ (fun j r=>wF w j r),n2,Uk];exact I.con
  ·rw[cN,fJ (fun j r=>pT w j r),V,Uk];exact I.var x
  ·simp only[List.map_append,List.map_cons,List.map_nil];exact I.act.push ⟨fA T,T.length+1,T.length+1,t.s⟩ P (fun j r=>pT w j r) V
  ·simp only[List.map_append,List.map_cons,List.map_nil];exact I.typ.push ⟨fA T,T.length+1,T.length+1,t.s⟩ P (fun j r=>wH R j r) n3
  ·rw[y,vh _ w,Z,Uk];exact O
theorem Ob(z:iZ T (aa T) (aa T).length)(A:mT T (aa T) (aa T).length)(I:tA T (aa T) d)(y:fA T+1=T.length)(u:d.XM=[])(j:d.XQ=false)(D:d.XV=ki T (aa T)++[tS T (fA T)])(B:((tS T (fA T)).toList == [])=false)(r:ii (tS T (fA T)) ⟨#[36]⟩=false) :
  ee (T++[t]) (fA T)=(t.s,T.length+1)/\(if(aA t.s||aH t.s)=true then(0:Int) else 14)=(aJ d t.s).1/\((aJ d t.s).1=0->tA (T++[t]) (aa (T++[t])) (aJ d t.s).2/\uK (T++[t]) (aJ d t.s).2):=by
 have i:ee (T++[t]) (fA T)=(t.s,T.length+1):=by
  unfold ee;rw[fY T [t] _ (by omega),r,TH (by simp;omega),y,oo,<-y]
 have g:∀{n:Int},fm t.s.toList n->(aA t.s||aH t.s)=true->tA (T++[t]) (aa (T++[t])) { d with Yd:=n }/\uK (T++[t]) { d with Yd:=n }:=fun {n} c b=>by
  obtain⟨w,k⟩:=lX (T:=T) (t:=t) c.dep.2.2;have C:eF (T++[t]) (T.length+1) (T++[t]).length=[]:=by rw[ma];simp
  have x:tS (T++[t]) (fA (T++[t]))=tS T (fA T):=by rw[k,fY T [t] _ (by omega)]
  refine⟨by rw[w];exact I.same z A rfl rfl rfl rfl rfl,uK.body t.s (T.length+1) [] (by rw[k];exact i) (by rw[k];omega) (by simp) c C (by rw[ju];exact j) u (fun h=>by rw[show({ d with Yd:=n }:Db).XQ=d.XQ from rfl,j]at h;cases h) ?_ (fun _=>by rw[x];exact B)⟩;rw[w,b,TJ rfl,rC z,x];exact D
 refine⟨i,?_⟩;unfold aJ;cases l:(t.s.toList == [36,102])
 ·cases m:(t.s.toList == [36,101])
  ·cases o:(t.s.toList == [36,97])
   ·cases q:(t.s.toList == [36,112])
    ·have b:(aA t.s||aH t.s)=false:=(by unfold aA aH;rw[l,m,o,q];rfl);rw[b];exact⟨rfl,fun h=>by simp at h⟩
    ·have b:(aA t.s||aH t.s)=true:=(by unfold aA aH;rw[q];simp);have c:=fm.p;rw[<-dr q]at c;rw[b];exact⟨rfl,fun _=>g c b⟩
   ·have b:(aA t.s||aH t.s)=true:=(by unfold aA aH;rw[o];simp);have c:=fm.a;rw[<-dr o]at c;rw[b];exact⟨rfl,fun _=>g c b⟩
  ·have b:(aA t.s||aH t.s)=true:=(by unfold aA aH;rw[m];simp);have c:=fm.e;rw[<-dr m]at c;rw[b];exact⟨rfl,fun _=>g c b⟩
 ·have b:(aA t.s||aH t.s)=true:=by unfold aA aH;rw[l];simp
  have c:=fm.f;rw[<-dr l]at c;rw[b];exact⟨rfl,fun _=>g c b⟩
end
end Go.Proofs.YtnbhnocdhbcbcaaGreat
