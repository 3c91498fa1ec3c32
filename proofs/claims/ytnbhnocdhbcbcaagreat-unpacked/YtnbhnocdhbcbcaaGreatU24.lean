import Derived.Test.YtnbhnocdhbcbcaaGreatU05
import Derived.Test.YtnbhnocdhbcbcaaGreatU15
namespace Go.Proofs.YtnbhnocdhbcbcaaGreat
open Go.RowKit Tryz
open Value IntKind Ending
set_option maxHeartbeats 0
variable{z4:Int}{i A:List Tk}{I zt:Nat}{z6 y1:Nat->Bool}{x:List Sm}{u C:Nat->Xt}{z5:Sm}{z3:Xt}{E:Xv}{N z2:Db}{r:List UInt8}{z:Xs}(L:Xs)(o H:List Tk)(F y:List Sm)(D:Nat)(z7:Int)(z0:Xv)(l:Xs)(b:Nat)(y0:Bool)(m:Xt)(w:Xs)(z1:Nat->Bool)(B:Tk)(g:Sm)
def mw(nm d:Xs)(i:tE):Tk:=⟨i.text,i.YE,nm,aX d i.pos,bK d i.pos⟩
def QX(nm d:Xs):Nat->Nat->List Tk
 | 0,_=>[]
 | f+1,k=>mw nm d (bQ d k).1 :: (if aK (bQ d k).1=true then QX nm d f (bQ d k).2 else [])
def oi(nm d:Xs)(k:Nat):List Tk:=QX nm d (d.size-k+1) k
theorem OV(f k:Nat)(a:k<=w.size)(b:w.size-k+1<=f):QX l w f k=oi l w k:=by
 unfold oi
 suffices h:∀f g k,k<=w.size->w.size-k+1<=f->w.size-k+1<=g->QX l w f k=QX l w g k from h _ _ _ a b (Ue _)
 clear b a f k;intro f
 induction f with
 | zero=>intro g k _ h;omega
 | succ f e =>
  intro g k a b i;cases g with
  | zero=>omega
  | succ g =>
   rw[QX,QX];split
   ·next h =>
    have c:=iq w k a;have d:=c.2.2 h;rw[e g _ c.2.1 (by omega) (by omega)]
   ·rfl
theorem mo(c:b<=l.size)(h:aK (bQ l b).1=true):oi L l b=mw L l (bQ l b).1 :: oi L l (bQ l b).2:=by
 have a:=iq l b c;have d:=a.2.2 h
 conv=>lhs;unfold oi
 rw[QX,Uf h,OV L l _ _ a.2.1 (by omega)]
theorem kR(h:aK (bQ l b).1=false):oi L l b=[mw L l (bQ l b).1]:=by
 unfold oi;rw[QX,Ud (by simp[h])]
theorem GG(h:b<l.size)(a:dr (aH l b)=true):bQ l b=bQ l (b+1):=by
 unfold bQ;rw[Jl l b h a]
theorem wB(h:b<l.size)(c:dr (aH l b)=true):oi L l b=oi L l (b+1):=by
 have e:=GG l b h c;cases a:aK (bQ l b).1
 ·rw[kR L l b a,kR L l (b+1) (by rw[<-e];exact a),e]
 ·rw[mo L l b (by omega) a,mo L l (b+1) (by omega) (by rw[<-e];exact a),e]
theorem E8(n:Nat):∀a,(∀j,a<=j->j<a+n->j<w.size/\dr (aH w j)=false/\fX (aH w j)=true)->dq w a=dq w (a+n):=by
 induction n with
 | zero=>intro a _;rfl
 | succ n c =>
  intro a h;have b:=h a (by omega) (by omega);rw[Ju w a b.1 b.2.1 b.2.2,c (a+1) (fun j d e=>h j (by omega) (by omega))];congr 1;omega
theorem Fr(h:rW z4=false)(a:dr z4=false):fX z4=true:=by
 unfold rW at h;rw[a]at h;simpa using h
theorem EC(a:D<b)(i:b<=L.size)(c:∀j,D<=j->j<b->dr (aH L j)=false/\fX (aH L j)=true)(f:b<L.size->dr (aH L b)=true):bQ L D=(⟨L.extract D b,0,false,D⟩,b):=by
 have d:=E8 L (b-D) D (fun j e g=>⟨by omega,c j e (by omega)⟩);rw[show D+(b-D)=b by omega]at d;refine AI L D D b (uF L D (fun h=>?_)).symm d.symm (fun h=>?_) a
 ·rw[(c D (Ue _) a).1]at h;simp at h
 ·rw[f h.1]at h;simp at h
theorem pE(i:Nat):∀j,dI w i<=j->j<i->dr (aH w j)=false:=by
 induction i with
 | zero=>intro j _ h;omega
 | succ i c =>
  intro j a d;rw[dI]at a;split at a
  ·omega
  ·next b =>
   by_cases e:j=i
   ·rw[e];simpa using b
   ·exact c j a (by omega)
theorem zs(i:Nat)(k:i<=w.size)(f:∀j,j<i->rW (aH w j)=false):oi l w 0=jU l w i++oi l w (dI w i):=by
 induction i with
 | zero=>rfl
 | succ i b =>
  have b:=b (by omega) (fun j m=>f j (by omega));rw[jU,dI];cases a:dr (aH w i)
  ·rw[Ud (by simp),Ud (by simp)];exact b
  ·rw[Uf rfl,Uf rfl];have n:=pF w i;unfold jV;split
   ·next e =>
    rw[b,e,wB l w i (by omega) a]
   ·next e =>
    have g:=EC w (dI w i) i (by omega) (by omega) (fun j c d=>⟨pE w i j c d,Fr (f j (by omega)) (pE w i j c d)⟩) (fun _=>a);rw[b,mo l w (dI w i) (by omega) (by rw[g];rfl),g,<-wB l w i (by omega) a];simp[mw,ng]
theorem Ig:iZ l w=oi l w 0:=by
 unfold iZ;cases d:kz w with
 | some i =>
  unfold kz at d;rw[Vp]at d;obtain⟨b,c,r⟩:=d;have c:=Up.1 c;have f:∀j,j<i->rW (aH w j)=false:=fun j m=>by simpa using r j m
  have p:=pF w i;have g:∀j,dI w i<=j->j<dI w i+(i-dI w i)->j<w.size/\dr (aH w j)=false/\fX (aH w j)=true:=fun j b c=>⟨by omega,pE w i j b (by omega),Fr (f j (by omega)) (pE w i j b (by omega))⟩
  have n:fX (aH w i)=false/\dr (aH w i)=false:=by
   unfold rW at b;simpa using b
  have q:=E8 w (i-dI w i) (dI w i) g;rw[show dI w i+(i-dI w i)=i by omega]at q
  have o:dI w i=skip w (dI w i):=(uF w _ (fun h=>by
   by_cases e:dI w i=i
   ·rw[e,n.2]at h;simp at h
   ·rw[(g (dI w i) (Ue _) (by omega)).2.1]at h;simp at h)).symm
  have k:=EA w (dI w i) (dI w i) i o q.symm c n.2 n.1;simp only;rw[zs l w i (by omega) f,kR l w (dI w i) (by rw[k];rfl),k];simp[mw,ng]
 | none =>
  have f:∀j,j<w.size->rW (aH w j)=false:=fun j m=>by
   unfold kz at d;rw[U8]at d;simpa using d j (Up.2 m)
  have p:=pF w w.size;have a:bQ w w.size=(⟨⟨#[]⟩,0,true,w.size⟩,w.size):=EB w w.size w.size w.size (uF w _ (fun h=>by omega)).symm rfl (fun h=>by omega) (Ue _);simp only;rw[zs l w w.size (Ue _) f];unfold jV;split
  ·next e =>
   rw[e,kR l w w.size (by rw[a];rfl),a];simp[mw,ng]
  ·next e =>
   have k:=EC w (dI w w.size) w.size (by omega) (Ue _) (fun j b c=>⟨pE w _ j b c,Fr (f j c) (pE w _ j b c)⟩) (fun h=>by omega);rw[mo l w (dI w w.size) p (by rw[k];rfl),k,kR l w w.size (by rw[a];rfl),a];simp[mw,ng]
def QO(nm d:Xs):Nat->Nat->List Tk
 | 0,_=>[]
 | f+1,k=>mw nm d (aC d k).1 :: (if aK (aC d k).1=true then QO nm d f (aC d k).2 else [])
def mR(nm d:Xs)(k:Nat):List Tk:=QO nm d (d.size-k+1) k
theorem OC(f k:Nat)(a:k<=w.size)(b:w.size-k+1<=f):QO l w f k=mR l w k:=by
 unfold mR
 suffices h:∀f g k,k<=w.size->w.size-k+1<=f->w.size-k+1<=g->QO l w f k=QO l w g k from h _ _ _ a b (Ue _)
 clear b a f k;intro f
 induction f with
 | zero=>intro g k _ h;omega
 | succ f e =>
  intro g k a b i;cases g with
  | zero=>omega
  | succ g =>
   rw[QO,QO];split
   ·next h =>
    have c:=gq w k a;have d:=c.2.2 h;rw[e g _ c.2.1 (by omega) (by omega)]
   ·rfl
theorem kP(c:b<=l.size)(h:aK (aC l b).1=true):mR L l b=mw L l (aC l b).1 :: mR L l (aC l b).2:=by
 have a:=gq l b c;have d:=a.2.2 h
 conv=>lhs;unfold mR
 rw[QO,Uf h,OC L l _ _ a.2.1 (by omega)]
theorem kO(h:aK (aC l b).1=false):mR L l b=[mw L l (aC l b).1]:=by
 unfold mR;rw[QO,Ud (by simp[h])]
theorem GZ(j:Nat)(d:b<=l.size)(c:j<=l.size)(h:aC l b=aC l j):mR L l b=mR L l j:=by
 cases a:aK (aC l b).1
 ·rw[kO L l b a,kO L l j (by rw[<-h];exact a),h]
 ·rw[kP L l b d a,kP L l j c (by rw[<-h];exact a),h]
theorem Jq(c:UInt8):io w ⟨#[36,c]⟩=(List.range w.size).any (fun i=>decide (1<=i)&&(aH w (i-1)==36)&&(aH w i==(c.toNat:Int))):=by
 have d:(⟨#[36,c]⟩:Xs).size=2:=rfl;have b:∀i,i+2<=w.size->(tp w ⟨#[36,c]⟩ i=((aH w i==36)&&(aH w (i+1)==(c.toNat:Int)))):=fun i a=>by
  have e:(w.extract i (i+2)).toList=[w[i]'(by omega),w[i+1]'(by omega)]:=by
   apply Xj
   ·rw[US];simp;omega
   ·intro n m k;simp only[List.length_cons,List.length_nil]at k;have l:n=0∨n=1:=by omega
    simp only[ByteArray.toList_eq,ByteArray.data_extract,Array.getElem_toList,Array.getElem_extract];rcases l with rfl | rfl <;> rfl
  unfold tp;rw[d,e,bZ w i (by omega),bZ w (i+1) (by omega)];have j:(⟨#[36,c]⟩:Xs).toList=[36,c]:=by rw[US]
  rw[j];have f:∀x:UInt8,((x.toNat:Int)==36)=(x==36):=fun x=>by
   rw[Vo];simp only[beq_iff_eq];constructor
   ·intro h;exact UInt8.toNat_inj.1 (by rw[show x.toNat=36 by omega];rfl)
   ·rintro rfl;rfl
  have g:∀x:UInt8,((x.toNat:Int)==(c.toNat:Int))=(x==c):=fun x=>by
   rw[Vo];simp only[beq_iff_eq];constructor
   ·intro h;exact UInt8.toNat_inj.1 (by omega)
   ·rintro rfl;rfl
  rw[f,g];simp[Bool.beq_eq_decide_eq,Bool.decide_and]
 unfold io;rw[d,Vo,UW,UW];constructor
 ·rintro ⟨i,a,h⟩;have a:=Up.1 a;rw[Ux,Vh]at h;rw[b i h.1]at h;exact⟨i+1,Up.2 (by omega),by rw[Vj,Ux,Ux,Vh];rw[Ux]at h;exact⟨⟨by omega,h.2.1⟩,h.2.2⟩⟩
 ·rintro ⟨i,a,h⟩;have a:=Up.1 a;rw[Ux,Ux,Vh]at h;refine⟨i-1,Up.2 (by omega),?_⟩;rw[Ux,Vh,b (i-1) (by omega),Ux,show i-1+1=i by omega];exact⟨by omega,h.1.2,h.2⟩
theorem vV:lq w=(io w ⟨#[36,40]⟩||io w ⟨#[36,41]⟩):=by
 rw[Jq,Jq,Vo,UO];unfold lq;simp only[List.any_eq_true,Bool.and_eq_true,Bool.or_eq_true];constructor
 ·rintro ⟨i,c,b,a | a⟩
  ·exact Us ⟨i,c,b,a⟩
  ·exact Uo ⟨i,c,b,a⟩
 ·rintro (⟨i,c,b,a⟩ | ⟨i,c,b,a⟩)
  ·exact⟨i,c,b,Us a⟩
  ·exact⟨i,c,b,Uo a⟩
theorem iV:io w ⟨#[36]⟩=dD w:=by
 have b:(⟨#[36]⟩:Xs).size=1:=rfl;have a:∀i,i+1<=w.size->(tp w ⟨#[36]⟩ i=(aH w i==36)):=fun i c=>by
  have e:(w.extract i (i+1)).toList=[w[i]'(by omega)]:=by
   apply Xj
   ·rw[US];simp;omega
   ·intro n j f;simp only[List.length_cons,List.length_nil]at f;have g:n=0:=by omega
    simp only[ByteArray.toList_eq,ByteArray.data_extract,Array.getElem_toList,Array.getElem_extract];subst g;rfl
  unfold tp;rw[b,e,bZ w i (by omega)];have d:(⟨#[36]⟩:Xs).toList=[36]:=by rw[US]
  rw[d,Vo];simp only[beq_iff_eq,List.cons.injEq,and_true];constructor
  ·intro h;rw[h];rfl
  ·intro h;exact UInt8.toNat_inj.1 (by rw[show(w[i]'(by omega)).toNat=36 by omega];rfl)
 unfold io dD;rw[b,Vo,UW,UW];constructor
 ·rintro ⟨i,c,h⟩;rw[Ux,Vh]at h;rw[a i h.1]at h;exact⟨i,Up.2 (by omega),h.2⟩
 ·rintro ⟨i,c,h⟩;have c:=Up.1 c;exact⟨i,Up.2 (by omega),by rw[Ux,Vh,a i (by omega)];exact⟨by omega,h⟩⟩
theorem uD(c:b<=l.size):(aK (bQ l b).1=true->((bQ l b).1.text.toList == [])=false/\(bQ l b).1.YE=0)/\(aK (bQ l b).1=false->(bQ l b).1.text=⟨#[]⟩/\((bQ l b).1.YA=true->(bQ l b).1.YE=0)):=by
 have a:=Cs l b c;have d:=tw l (skip l b) a.2;unfold bQ;simp only;split
 ·exact⟨fun h=>by simp[aK]at h,fun _=>⟨rfl,fun h=>by cases h⟩⟩
 ·split
  ·exact⟨fun h=>by simp[aK]at h,fun _=>⟨rfl,fun _=>rfl⟩⟩
  ·next f g =>
   refine⟨fun _=>⟨?_,rfl⟩,fun h=>by simp[aK]at h⟩;have i:(l.extract (skip l b) (dq l (skip l b))).size=dq l (skip l b)-skip l b:=by
    rw[Wv];omega
   cases e:((l.extract (skip l b) (dq l (skip l b))).toList == [])
   ·rfl
   ·have e:(l.extract (skip l b) (dq l (skip l b))).toList=[]:=(by simpa using e);have:=congrArg List.length e;rw[US]at this;have j:dq l (skip l b)-skip l b=0∨l.size-skip l b=0:=(by simpa using this);omega
theorem MG(f:Nat):∀k,k<=w.size->w.size-k+1<=f ->
  b7 true (oi l w k)=(if aK (bh w k).1=true then b7 false (oi l w (bh w k).2) else [mw l w (bh w k).1]):=by
 induction f with
 | zero=>intro k _ h;omega
 | succ f o =>
  intro k i r;have j:=iq w k i;obtain⟨p,q⟩:=uD w k i;cases a:aK (bQ w k).1
  ·obtain⟨d,e⟩:=q a;rw[kR l w k a];cases b:(bQ w k).1.YA
   ·have n:((bQ w k).1.YE==0)=false:=by
     unfold aK at a;rw[b]at a;simpa using a
    rw[vX w k a b,a,Ud (by simp),b7,Uf (by exact n)];rw[b7]
   ·rw[tT w k a b,Ud (by simp[aK]),b7,Ud (by simp[mw,e b]),Ud (by simp[mw,Fd,d]),Uf (by simp[mw,Fd,d]),b7];rfl
  ·obtain⟨d,e⟩:=p a;have m:=j.2.2 a;rw[mo l w k i a];cases c:((bQ w k).1.text.toList == [36,41])
   ·cases g:lq (bQ w k).1.text
    ·rw[xC w k i a c g,b7,Ud (by simp[mw,e]),Ud (by simp only[mw,Fd];rw[c];simp),Ud (by simp only[mw,Fd];rw[d];simp),Ud (by rw[<-vV];simp only[mw];rw[g];simp)];exact o _ j.2.1 (by omega)
    ·rw[tR w k a c g,Ud (by simp[aK]),b7,Ud (by simp[mw,e]),Ud (by simp only[mw,Fd];rw[c];simp),Ud (by simp only[mw,Fd];rw[d];simp),Uf (by rw[<-vV];exact g)];rfl
   ·rw[si w k a c,Uf a,b7,Ud (by simp[mw,e]),Uf (by simp only[mw,Fd];exact c)]
theorem JL(f:Nat):∀k,k<=w.size->w.size-k+1<=f->b7 false (oi l w k)=mR l w k:=by
 induction f with
 | zero=>intro k _ h;omega
 | succ f j =>
  intro k d q;have i:=iq w k d;obtain⟨r,o⟩:=uD w k d;cases b:aK (bQ w k).1
  ·obtain⟨m,p⟩:=o b;have a:=sY w k (Us b);rw[kR l w k b,kO l w k (by rw[a];exact b),a,b7,Ud (by simp[mw,Fd,m]),b7]
  ·have n:=i.2.2 b;rw[mo l w k d b];cases e:((bQ w k).1.text.toList == [36,40])
   ·have a:=sY w k (Uo e);rw[kP l w k d (by rw[a];exact b),a,b7,Ud (by simp only[mw,Fd];rw[e];simp),j _ i.2.1 (by omega)]
   ·have g:=jK w (bQ w k).2 i.2.1;rw[b7,Uf (by simp only[mw,Fd];exact e),MG l w _ _ i.2.1 (Ue _)];cases c:aK (bh w (bQ w k).2).1
    ·have a:=we w k b e c;rw[Ud (by simp),kO l w k (by rw[a];exact c),a]
    ·have a:=I9 w k d b e c;rw[Uf rfl,j _ g.2 (by omega)];exact(GZ l w k _ d g.2 a).symm
theorem AY(a:Fs)(k:Nat):sB a k=mR (aF a k) (ak a k) 0:=by
 unfold sB;rw[Ig];exact JL _ _ _ 0 (UF _) (Ue _)
theorem fY(h:b<o.length):tS (o++H) b=tS o b:=by
 unfold tS;rw[Uc,Uc,Uv h]
theorem oE:tS (H++[B]) H.length=B.s:=by
 unfold tS;rw[Uc,Ur (Ue _),U3];rfl
theorem BU(h:b+1<o.length):eu (o++H) b=eu o b:=by
 unfold eu;rw[fY o H b (by omega),fY o H (b+1) h,Uh];have a:decide (o.length+H.length<=b+1)=false:=by simp;omega
 have c:decide (o.length<=b+1)=false:=by simp;omega
 rw[a,c]
theorem Ko(d:D<=b)(c:b<o.length)(a:cd (tS o b)=true):eu (o++H) D=eu o D:=by
 by_cases e:D=b
 ·subst e;unfold eu;rw[fY o H D c,(lH a).1];simp
 ·exact BU o H D (by omega)
theorem yo(i:Nat)(c:i<=o.length):fI (o++H) i=fI o i:=by
 induction i with
 | zero=>rfl
 | succ i b =>
  rw[fI,fI,b (by omega),fY o H i (by omega)];cases a:cd (tS o i)
  ·rfl
  ·rw[Ko o H _ i (NJ o i) (by omega) a]
theorem Gi(k:Nat):∃M,(fI H (b+k)).1=(fI H b).1++M/\∀m∈M,b<m.z:=by
 induction k with
 | zero=>exact⟨[],by simp,by simp⟩
 | succ k e =>
  obtain⟨M,a,c⟩:=e;rw[show b+(k+1)=(b+k)+1 by omega,fI];split
  ·refine⟨M++[⟨(fI H (b+k)).2,b+k+1,(eu H (fI H (b+k)).2).2,(eu H (fI H (b+k)).2).1⟩],by simp only[a,List.append_assoc],fun m d=>?_⟩;rcases UG.1 d with h | h
   ·exact c m h
   ·rw[Uq.1 h];show b<b+k+1;omega
  ·exact⟨M,a,c⟩
theorem AV:∃M,aa (o++H)=aa o++M/\∀m∈M,o.length<m.z:=by
 obtain⟨M,a,b⟩:=Gi (o++H) o.length H.length;refine⟨M,?_,b⟩;unfold aa;rw[Uh,a,yo o H _ (Ue _)]
def fD(T:List Tk):Nat:=(fI T T.length).2
theorem Gn:fD H=lk (aa H) (aa H).length:=(dN H).fr
theorem oc:aa (H++[B])=(if cd B.s=true then aa H++[⟨fD H,H.length+1,(eu (H++[B]) (fD H)).2,(eu (H++[B]) (fD H)).1⟩] else aa H)/\fD (H++[B])=(if cd B.s=true then H.length+1 else fD H):=by
 unfold aa fD;rw[Uh,UK,UU,fI,yo H [B] H.length (Ue _),oE];split <;> exact⟨rfl,rfl⟩
theorem jQ(h:b<F.length):aq (F++y) b=aq F b:=by
 unfold aq;rw[Uc,Uc,Uv h]
theorem C3(h:b<=F.length):lk (F++y) b=lk F b:=by
 unfold lk;split
 ·rw[jQ F y (b-1) (by omega)]
 ·rfl
theorem ID(S M:List Sm)(h:∀m∈M,b<m.z):oK b (S++M)=oK b S:=by
 induction S with
 | nil =>
  cases M with
  | nil=>rfl
  | cons m M =>
   have:=h m (by simp)
   show(if m.z<=b then oK b M+1 else 0)=0
   rw[Ud (by omega)]
 | cons s S a=>rw[Wc,oK,oK,a]
theorem sI(h:b<=F.length):aO (F++y) D b=aO F D b:=by
 unfold aO;by_cases a:D<=F.length
 ·rw[U9 a,Vg (by rw[UX];omega)]
 ·rw[show b-D=0 by omega];simp
theorem l6(h:b<=F.length):bq (F++y) b=bq F b:=by
 unfold bq;rw[Vg h]
theorem z9(L M:List Tk)(h:∃u∈L,od u.s=true):lQ (L++M)=lQ L:=by
 induction L with
 | nil=>obtain⟨u,b,-⟩:=h;cases b
 | cons a L e =>
  rw[Wc,lQ,lQ];split
  ·rfl
  ·next d =>
   rw[e];obtain⟨u,b,c⟩:=h;rcases UH.1 b with rfl | b
   ·exact absurd c d
   ·exact⟨u,b,c⟩
theorem LL(c:dS i I):∃u∈i.drop I,od u.s=true:=by
 obtain⟨e,d,b,a⟩:=c;refine⟨i[e],?_,?_⟩
 ·rw[List.mem_iff_getElem?];exact⟨e-I,by rw[VQ,show I+(e-I)=e by omega,Ub b]⟩
 ·unfold tS at a;rw[Uc,Ub b]at a;exact a
theorem qE(a:dS o b):bA (o++H) b=bA o b:=by
 have c:b<=o.length:=by obtain⟨e,d,f,-⟩:=a;omega
 unfold bA;rw[U9 c,z9 _ _ (LL a)]
theorem LK(f:dS o b):dS (o++H) b:=by
 obtain⟨e,a,c,d⟩:=f;exact⟨e,a,by rw[Uh];omega,by rw[fY o H e c];exact d⟩
theorem l4(h:∀j,j<I->z6 j=y1 j):(List.range I).any z6=(List.range I).any y1:=by
 rw[Vo,UW,UW];constructor
 ·rintro ⟨j,a,b⟩;exact⟨j,a,by rw[<-h j (Up.1 a)];exact b⟩
 ·rintro ⟨j,a,b⟩;exact⟨j,a,by rw[h j (Up.1 a)];exact b⟩
theorem xP{l:Xv}{q:Nat->Bool}(h:∀j∈l,z6 j=q j):l.find? z6=l.find? q:=by
 induction l with
 | nil=>rfl
 | cons a l c =>
  rw[Xz,Xz,h a (by simp),c (fun j b=>h j (by simp[b]))]
section
variable {T U:List Tk} {S M:List Sm} {n:Nat}
theorem xD(c:n<=S.length)(b:∀j,j<n->((aq S j).k.toList==L.toList)=true->dS T (aq S j).h):jL (T++U) (S++M) L l n y0=jL T S L l n y0:=by
 unfold jL;refine l4 (fun j a=>?_);unfold o8;rw[jQ S M j (by omega),sI S M j n c];cases h:((aq S j).k.toList==L.toList)
 ·rfl
 ·rw[qE T U _ (b j a h)]
theorem uX(a:i8 T S n):eO (T++U) (S++M) w n=eO T S w n:=xD _ w _ a.m (by rw[pk.1];exact a.c)
theorem Jr(a:i8 T S n):iI (T++U) (S++M) w n=iI T S w n:=xD _ w _ a.m (by rw[pk.2];exact a.v)
theorem Aq(h:g.a<T.length):bD (T++U) g=bD T g:=by
 unfold bD;rw[fY T U g.a h]
theorem ug(c:i8 T S n):bB (T++U) (S++M) w n=bB T S w n:=by
 unfold bB
 rw[xP (q:=mU T S w) (fun j b=>by
  have b:=Up.1 b;have:=c.m;unfold mU;rw[jQ S M j (by omega),Aq _ (c.a j b)])]
theorem AW(a:i8 T S n):jT (T++U) (S++M) w n=jT T S w n:=by
 unfold jT;rw[ug w a,uX w a,xD _ w _ a.m (by rw[pk.2];exact a.v)]
theorem Kb(b:i8 T S n)(c:m8 T S n):gG (T++U) (S++M) w n=gG T S w n:=by
 unfold gG
 rw[xP (q:=rZ T S w n) (fun j a=>by
  have a:=Up.1 a;have:=b.m;unfold rZ;rw[jQ S M j (by omega),sI S M j n b.m];cases h:((aq S j).k.toList == [36,102])
  ·rfl
  ·rw[fY T U _ (c j a h)])]
theorem KH(a:i8 T S n):kl (T++U) (S++M) l n y0 m=kl T S l n y0 m:=by
 unfold kl;rw[AW l a,ug l a,uX l a,Jr l a]
theorem GX(a:i8 T S n)(b:m8 T S n):ir (T++U) (S++M) L l n m=ir T S L l n m:=by
 unfold ir;rw[uX l a,Jr l a,Kb l a b]
theorem Et(a:i8 T S n)(b:m8 T S n):mO (T++U) (S++M) L l n m=mO T S L l n m:=by
 unfold mO;rw[KH l _ m a,GX L l m a b]
theorem Ak(a:i8 T S n):dE (T++U) (S++M) w n=dE T S w n:=by
 unfold dE;rw[l6 S M n a.m,AW w a]
end
theorem Iz(a:D<=b)(c:b<=o.length):eJ (o++H) D b=eJ o D b:=by
 unfold eJ;rw[U9 (by omega),Vg (by rw[UX];omega)]
theorem xw(f:o.length<=100000)(i:Nat)(c:i<o.length)(a:∀j,j<i->aY o (aa o) j=0):aY (o++H) (aa (o++H)) i=aY o (aa o) i:=by
 obtain⟨b,k⟩:=Rc o f i c a;obtain⟨M,d,n⟩:=AV o H;rw[d];generalize aa o=S at *;have g:jJ (S++M) i=jJ S i:=ID i S M (fun m l=>by have:=n m l;omega);have p:=MN S i;unfold aY;rw[g,C3 S M _ b.m,fY o H i c];by_cases e:i=lk S (jJ S i)
 ·rw[Uf e,Uf e,Ak _ b]
 ·rw[Ud e,Ud e,BU o H _ (by omega)];split
  ·rfl
  ·next q =>
   rw[Et _ _ _ b k,Iz o H _ i (by omega) (by omega)]
theorem sK(b:o.length<=100000)(h:∀j,j<o.length->aY o (aa o) j=0):∀j,j<o.length->aY (o++H) (aa (o++H)) j=0:=fun j a=>by
 rw[xw o H b j a (fun q c=>h q (by omega))];exact h j a
def v6(o:Int)(L:List Sm):Int:=L.foldl (fun o s=>aP o s.k) o
theorem Ad(c:Int)(k:Xs):aP (z7+c) k=aP z7 k+c:=by
 unfold aP;split <;> split <;> omega
theorem DB(L:List Sm):∀o c,v6 (o+c) L=v6 o L+c:=by
 induction L with
 | nil=>intro o c;rfl
 | cons s L a =>
  intro o c;show v6 (aP (o+c) s.k) L=v6 (aP o s.k) L+c;rw[Ad,a]
theorem JC(L:List Sm)(s:Sm):∀o,rT o (L++[s])=(rT o L&&decide (0<=v6 o (L++[s]))):=by
 induction L with
 | nil =>
  intro o
  show(if aP o s.k<0 then false else rT (aP o s.k) [])=(rT o []&&decide (0<=aP o s.k))
  simp only[rT];by_cases h:aP o s.k<0
  ·rw[Uf h];simp;omega
  ·rw[Ud h];simp;omega
 | cons a L b =>
  intro o;rw[Wc,rT,rT];by_cases h:aP o a.k<0
  ·rw[Uf h,Uf h];rfl
  ·rw[Ud h,Ud h,b];rfl
theorem FM(c:D<=b):v6 0 ((y.drop D).take (b-D))=bq y b-bq y D:=by
 have e:y.take b=y.take D++(y.drop D).take (b-D):=by
  rw[show b=D+(b-D) by omega,List.take_add];simp
 have a:bq y b=v6 (bq y D) ((y.drop D).take (b-D)):=by
  unfold bq v6;rw[e,VY]
 have:=DB ((y.drop D).take (b-D)) 0 (bq y D);rw[Int.zero_add]at this;omega
theorem oY(c:D<=b)(d:b<y.length):aO y D (b+1)=(aO y D b&&decide (bq y D<=bq y (b+1))):=by
 have e:(y.drop D).take (b+1-D)=(y.drop D).take (b-D)++[y[b]]:=by
  rw[show b+1-D=(b-D)+1 by omega,UY (by rw[UX];omega),WJ];congr 3;omega
 have a:=FM y D (b+1) (by omega);unfold aO;rw[e]at a ⊢;rw[JC,a];congr 1;rw[decide_eq_decide];omega
theorem CZ:aO y b b=true:=by
 unfold aO;rw[U3,V4,rT]
theorem Bg(n:Nat)(g:b<=n)(i:n<=y.length)(h:aO y b n=true):∀m,b<=m->m<=n->bq y b<=bq y m:=by
 induction n with
 | zero =>
  intro m a d;have e:m=b:=by omega
  rw[e];exact WK _
 | succ n f =>
  intro m a d;by_cases e:b=n+1
  ·have e:m=b:=(by omega);rw[e];exact WK _
  ·rw[oY y b n (by omega) (by omega),Ux,Vh]at h;by_cases c:m=n+1
   ·rw[c];exact h.2
   ·exact f (by omega) (by omega) h.1 m a (by omega)
def kT(S:List Sm)(n:Nat):Xv:=(List.range n).filter (fun j=>aO S j n)
theorem ja(h:zt∈kT x I):zt<I:=Up.1 (UP.1 h).1
theorem Fn(e:b<=y.length):(kT y b).Pairwise (fun a c=>bq y a<=bq y c):=by
 have h:=(Wy (n:=b)).filter (fun j=>aO y j b);refine h.imp_of_mem (fun {a c} ha d hab=>?_);have d:=ja d;exact Bg y a b (by omega) e (UP.1 ha).2 c (by omega) (by omega)
theorem GQ{f:Nat->Int}(l:Xv)(h:l.Pairwise (fun a b=>f a<=f b)):l=l.filter (fun j=>decide (f j<=z7))++l.filter (fun j=>!decide (f j<=z7)):=by
 induction l with
 | nil=>rfl
 | cons a l c =>
  obtain⟨g,i⟩:=List.pairwise_cons.1 h;have c:=c i;by_cases d:f a<=z7
  ·rw[VU (by simpa using d),VJ (by simpa using d),Wc,<-c]
  ·have e:l.filter (fun j=>decide (f j<=z7))=[]:=by
    rw[Wx];intro b k;have:=g b k;simp;omega
   rw[VJ (by simpa using d),VU (by simpa using d),e];rw[e]at c;rw[Wz]at c ⊢;rw[<-c]
theorem gn(h:∀j,j<I->z6 j=y1 j):(List.range I).filter z6=(List.range I).filter y1 :=
 XM (fun j a=>h j (Up.1 a))
theorem iU:bq (y++[g]) (y.length+1)=aP (bq y y.length) g.k:=by
 rw[vY (y++[g]) y.length (by simp),l6 y [g] _ (Ue _)];congr 2;simp
theorem sH:kT (y++[g]) (y.length+1)=(kT y y.length).filter (fun j=>decide (bq y j<=aP (bq y y.length) g.k))++(if 0<=aP 0 g.k then [y.length] else []):=by
 unfold kT;rw[Vr,Vi,XI];congr 1
 ·refine gn (fun j a=>?_);rw[oY (y++[g]) j y.length (by omega) (by simp),sI y [g] j _ (Ue _),l6 y [g] j (by omega),iU,XS]
 ·have e:aO (y++[g]) y.length (y.length+1)=decide (0<=aP 0 g.k):=by
   rw[oY (y++[g]) y.length y.length (Ue _) (by simp),CZ,l6 y [g] _ (Ue _),iU,VI,decide_eq_decide];have:=Ad 0 (bq y y.length) g.k;rw[Int.zero_add]at this;omega
  by_cases h:0<=aP 0 g.k
  ·rw[Uf h,VU (by rw[e];simpa using h)];rfl
  ·rw[Ud h,VJ (by rw[e];simpa using h)];rfl
theorem JD(a:I<=x.length)(h:zt∈kT x I):bq x zt<=bq x I:=by
 have b:=ja h;exact Bg x zt I (by omega) a (UP.1 h).2 I (by omega) (Ue _)
structure tF(F:Nat->Xt)(S:List Sm)(L:Xt)(B:Xv):Prop where
 l:L=(kT S S.length).flatMap F
 b:(B.length:Int)=bq S S.length
 o:∀i,i<B.length->B[i]?=some (((kT S S.length).filter (fun j=>decide (bq S j<=(i:Int)))).flatMap F).length
theorem dQ{l:Xv}{G:Nat->Xt}(h:∀j∈l,u j=G j):l.flatMap u=l.flatMap G:=by
 induction l with
 | nil=>rfl
 | cons a l c=>rw[U4,U4,h a (by simp),c (fun j b=>h j (by simp[b]))]
theorem sP(b:I<=x.length)(c:bq x I<=z4):(kT x I).filter (fun j=>decide (bq x j<=z4))=kT x I :=
 List.filter_eq_self.2 (fun j a=>by have:=JD b a;simp;omega)
theorem cY:(y++[g]).length=y.length+1:=by simp
theorem qq(b:I<=x.length)(c:Int):(kT x I).filter (fun j=>decide (bq (x++[z5]) j<=c))=(kT x I).filter (fun j=>decide (bq x j<=c)) :=
 XM (fun j a=>by rw[l6 x [z5] j (by have:=ja a;omega)])
theorem tF.norm(h:tF u x z3 E)(s:Sm)(c:∀o,aP o s.k=o)(d:∀j,j<x.length->C j=u j):tF C (x++[s]) (z3++C x.length) E:=by
 have e:=sH x s;rw[c,c,Uf (WK _),sP (Ue _) (WK _)]at e;have f:=h.b;refine⟨?_,?_,fun i g=>?_⟩
 ·rw[cY,e,Vz,h.l,dQ (fun j a=>d j (ja a))];simp
 ·rw[cY,iU,c];exact f
 ·rw[cY,e,Vi,qq (Ue _),VJ (by rw[l6 x [s] _ (Ue _)];simp;omega),Xy,UE,dQ (fun j a=>d j (ja (UP.1 a).1))];exact h.o i g
theorem tF.push(h:tF u x z3 E)(s:Sm)(d:∀o,aP o s.k=o+1)(m:∀j,j<x.length->C j=u j)(g:C x.length=[]):tF C (x++[s]) z3 (E++[z3.length]):=by
 have e:=sH x s;rw[d,d,Uf (by omega),sP (Ue _) (by omega)]at e;have r:=h.b;have f:∀p:Nat->Bool,([x.length].filter p).flatMap C=[]:=fun p=>by
  rw[List.flatMap_eq_nil_iff];intro j c;have:=Uq.1 (UP.1 c).1;rw[this];exact g
 refine⟨?_,?_,fun i q=>?_⟩
 ·rw[cY,e,Vz,h.l,dQ (fun j c=>m j (ja c))];simp[g]
 ·rw[cY,iU,d];simp;omega
 ·rw[cY,e,Vi,qq (Ue _),Vz,f,UE,dQ (fun j c=>m j (ja (UP.1 c).1))];simp only[List.length_append,List.length_cons,List.length_nil]at q;by_cases a:i<E.length
  ·rw[Uv a];exact h.o i a
  ·have n:i=E.length:=(by omega);rw[n,Ur (Ue _),U3,sP (Ue _) (by omega),<-h.l];rfl
theorem tF.pop(h:tF u x z3 (E++[I]))(s:Sm)(d:∀o,aP o s.k=o-1)(g:∀j,j<x.length->C j=u j):tF C (x++[s]) (z3.take I) E:=by
 have e:=sH x s;rw[d,d,Ud (by omega),UE]at e;have r:=h.b;simp only[List.length_append,List.length_cons,List.length_nil]at r;have t:bq x x.length-1=E.length:=by omega
 rw[t]at e;have c:=h.o E.length (by simp);rw[Ur (Ue _),U3]at c;have c:I=(((kT x x.length).filter (fun j=>decide (bq x j<=E.length))).flatMap u).length:=by simpa using c
 refine⟨?_,?_,fun i v=>?_⟩
 ·rw[cY,e,dQ (G:=u) (fun j a=>g j (ja (UP.1 a).1))];have n:=h.l;rw[GQ (f:=bq x) (E.length:Int) (kT x x.length) (Fn x _ (Ue _)),Vz]at n;rw[n,c,Vg (Ue _),Vk]
 ·rw[cY,iU,d];omega
 ·rw[cY,e,XI];have p:(kT x x.length).filter (fun j=>decide (bq (x++[s]) j<=(i:Int))&&decide (bq x j<=E.length))=(kT x x.length).filter (fun j=>decide (bq x j<=(i:Int))) :=
   XM (fun j a=>by
    rw[l6 x [s] j (by have:=ja a;omega)];by_cases m:bq x j<=(i:Int)
    ·have q:bq x j<=E.length:=(by omega);simp[m,q]
    ·simp[m])
  rw[p,dQ (G:=u) (fun j a=>g j (ja (UP.1 a).1))];have:=h.o i (by simp;omega);rw[Uv v]at this;exact this
def E0(T:List Tk)(S:List Sm)(j:Nat):Xt:=if((aq S j).k.toList == [36,118])=true then bA T (aq S j).h else []
def JW(T:List Tk)(S:List Sm)(j:Nat):Xt:=if((aq S j).k.toList == [36,99])=true then bA T (aq S j).h else []
def II(T:List Tk)(S:List Sm)(j:Nat):Xt:=if((aq S j).k.toList == [36,102])=true then [tS T ((aq S j).h+1)] else []
def NC(T:List Tk)(S:List Sm)(j:Nat):Xt:=if((bD T (aq S j)).toList == [])=true then [] else [bD T (aq S j)]
theorem pg(F:Nat->Xt)(l:Xv)(x:Xs):aJ (l.flatMap F) x=l.any (fun j=>aJ (F j) x):=by
 unfold aJ;rw[List.any_flatMap]
theorem jA:aJ [] w=false:=rfl
theorem xX(a:Xt)(x:Xs):aJ (m++a) x=(aJ m x||aJ a x):=by
 unfold aJ;rw[X9]
theorem sQ:aJ [l] w=(l.toList==w.toList):=by simp[aJ]
theorem vS(q:Nat->Bool):(z0.filter z1).any q=z0.any (fun j=>z1 j&&q j):=by
 rw[List.any_filter]
theorem Js:iI H y l b=aJ ((kT y b).flatMap (E0 H y)) l:=by
 rw[pg];unfold kT;rw[vS];unfold iI jL;refine l4 (fun j a=>?_);unfold o8 E0;rw[pk.2];cases h:((aq y j).k.toList == [36,118])
 ·rw[Ud (by simp),jA];simp
 ·rw[Uf rfl];simp[Bool.and_comm]
theorem uY:eO H y l b=aJ ((List.range b).flatMap (JW H y)) l:=by
 rw[pg];unfold eO jL;refine l4 (fun j a=>?_);unfold o8 JW;rw[pk.1];cases h:((aq y j).k.toList == [36,99])
 ·rw[Ud (by simp),jA];simp
 ·rw[Uf rfl];simp
theorem Fq:jL H y ⟨#[36,118]⟩ l b false=aJ ((List.range b).flatMap (E0 H y)) l:=by
 rw[pg];unfold jL;refine l4 (fun j a=>?_);unfold o8 E0;rw[pk.2];cases h:((aq y j).k.toList == [36,118])
 ·rw[Ud (by simp),jA];simp
 ·rw[Uf rfl];simp
theorem PH:(match z0.find? z1 with | some j=>(j:Int) | none=>-1)=-1 ↔ z0.any z1=false:=by
 cases h:z0.find? z1 with
 | none=>simp only[true_iff];rw[WH];rw[U8]at h;exact h
 | some j =>
  have a:=VP h;have b:=UV h;have c:z0.any z1=true:=UW.2 ⟨j,b,a⟩;rw[c];simp only[Bool.true_eq_false,iff_false];intro d;have:(0:Int)<=(j:Int):=by omega
  omega
theorem IN:decide (0<=(match z0.find? z1 with | some j=>(j:Int) | none=>-1))=z0.any z1:=by
 cases h:z0.find? z1 with
 | none =>
  have:=(PH z0 z1).1 (by rw[h]);rw[this];rfl
 | some j =>
  have a:z0.any z1=true:=UW.2 ⟨j,UV h,VP h⟩;rw[a];simp
theorem uh:decide (0<=bB H y l b)=aJ ((List.range b).flatMap (NC H y)) l:=by
 rw[pg];unfold bB;refine(IN (List.range b) (mU H y l)).trans ?_;refine l4 (fun j a=>?_);unfold mU NC;cases h:((bD H (aq y j)).toList == [])
 ·rw[Ud (by simp),sQ];simp
 ·rw[Uf rfl,jA];simp
theorem Kc:decide (0<=gG H y l b)=aJ ((kT y b).flatMap (II H y)) l:=by
 rw[pg];unfold kT;rw[vS];unfold gG;refine(IN (List.range b) (rZ H y l b)).trans ?_;refine l4 (fun j a=>?_);unfold rZ II;cases h:((aq y j).k.toList == [36,102])
 ·rw[Ud (by simp),jA];simp
 ·rw[Uf rfl,sQ];simp[Bool.and_comm]
theorem Cg(d:H.length<=100000)(b:∀j,j<H.length->aY H (aa H) j=0):i8 H (aa H) (aa H).length/\m8 H (aa H) (aa H).length:=by
 have p:=dN H;have f:(aa H).length<=H.length:=rI H H.length;generalize aa H=S at *;have c:=fun j (a:j<S.length)=>E6 p j a (fun q _ e=>b q (by have:=(p.s j a).2;omega));refine⟨⟨Ue _,by omega,d,fun j a=>(c j a).1,fun j a=>(c j a).2.1,fun j a=>?_⟩,fun j a=>(c j a).2.2⟩;have:=(p.s j a).1.lt;have:=(p.s j a).2;omega
structure tC(T:List Tk)(S:List Sm)(d:Db):Prop where
 con:d.Ye=(List.range S.length).flatMap (JW T S)
 var:∀x,aJ d.Yf x=aJ ((List.range S.length).flatMap (E0 T S)) x
 act:tF (E0 T S) S d.Yl (d.Yy.map (·.1))
 typ:tF (II T S) S d.Yo (d.Yy.map (·.2))
def kB(T:List Tk)(S:List Sm):Xt:=(List.range S.length).flatMap (NC T S)
def fw(l:List UInt8)(k:Int):Prop:=(l=[36,99]/\k=7)∨(l=[36,118]/\k=8)∨(l=[36,100]/\k=1)∨(l=[36,102]/\k=2)∨(l=[36,101]/\k=3)∨(l=[36,97]/\k=4)∨(l=[36,112]/\k=5)
theorem fw.c:fw [36,99] 7:=by simp[fw]
theorem fw.v:fw [36,118] 8:=by simp[fw]
theorem fw.d:fw [36,100] 1:=by simp[fw]
theorem fw.f:fw [36,102] 2:=by simp[fw]
theorem fw.e:fw [36,101] 3:=by simp[fw]
theorem fw.a:fw [36,97] 4:=by simp[fw]
theorem fw.p:fw [36,112] 5:=by simp[fw]
def jE(y:Xs):Bool:=!(y.toList == [36,61])
def uN(T:List Tk)(d:Db):Prop :=
 (fD T=T.length/\d.Yw=0/\d.Yc=[]/\d.Yg=false/\d.Yk=kB T (aa T)) ∨
 (fD T+1=T.length/\d.Yw=6/\d.Yc=[]/\d.Yg=false/\d.Yk=kB T (aa T)++[tS T (fD T)]/\((tS T (fD T)).toList == [])=false/\io (tS T (fD T)) ⟨#[36]⟩=false) ∨
 ∃(key:Xs) (head:Nat) (B:Xt),eu T (fD T)=(key,head)/\fD T<head/\head<=T.length/\fw key.toList d.Yw/\eJ T head T.length=B/\d.Yg=aJ B ⟨#[36,61]⟩/\d.Yc=B.takeWhile jE/\(d.Yg=true->d.Yw=5/\d.Yc≠[]) /\
  d.Yk=kB T (aa T)++(if(aA key||aG key)=true then [tS T (fD T)] else [])/\((aA key||aG key)=true->((tS T (fD T)).toList == [])=false)
theorem uN.none(a:fD i=i.length)(b:N.Yw=0)(c:N.Yc=[])(d:N.Yg=false)(e:N.Yk=kB i (aa i)):uN i N:=Us ⟨a,b,c,d,e⟩
theorem uN.lab(a:fD i+1=i.length)(b:N.Yw=6)(c:N.Yc=[])(d:N.Yg=false)(e:N.Yk=kB i (aa i)++[tS i (fD i)])(f:((tS i (fD i)).toList == [])=false)(g:io (tS i (fD i)) ⟨#[36]⟩=false):uN i N:=Uo (Us ⟨a,b,c,d,e,f,g⟩)
theorem uN.body(c:eu i (fD i)=(l,b))(d:fD i<b)(e:b<=i.length)(f:fw l.toList N.Yw)(g:eJ i b i.length=m)(j:N.Yg=aJ m ⟨#[36,61]⟩)(k:N.Yc=m.takeWhile jE)(n:N.Yg=true->N.Yw=5/\N.Yc≠[])(o:N.Yk=kB i (aa i)++(if(aA l||aG l)=true then [tS i (fD i)] else []))(a:(aA l||aG l)=true->((tS i (fD i)).toList == [])=false):uN i N:=Uo (Uo ⟨l,b,m,c,d,e,f,g,j,k,n,o,a⟩)
theorem tF.congr(h:tF u x z3 E)(c:∀j,j<x.length->C j=u j):tF C x z3 E :=
 ⟨by rw[dQ (G:=u) (fun j a=>c j (ja a))];exact h.l,h.b,fun i d=>by rw[dQ (G:=u) (fun j a=>c j (ja (UP.1 a).1))];exact h.o i d⟩
section
variable {T U:List Tk} {S M:List Sm}
theorem qh(b:i8 T S S.length)(j:Nat)(a:j<S.length):E0 (T++U) (S++M) j=E0 T S j:=by
 unfold E0;rw[jQ S M j a];split
 ·next h=>rw[qE T U _ (b.v j a h)]
 ·rfl
theorem wN(b:i8 T S S.length)(j:Nat)(a:j<S.length):JW (T++U) (S++M) j=JW T S j:=by
 unfold JW;rw[jQ S M j a];split
 ·next h=>rw[qE T U _ (b.c j a h)]
 ·rfl
theorem wP(b:m8 T S S.length)(j:Nat)(a:j<S.length):II (T++U) (S++M) j=II T S j:=by
 unfold II;rw[jQ S M j a];split
 ·next h=>rw[fY T U _ (b j a h)]
 ·rfl
theorem IY(c:i8 T S S.length)(j:Nat)(b:j<S.length):NC (T++U) (S++M) j=NC T S j:=by
 unfold NC;rw[jQ S M j b,Aq _ (c.a j b)]
end
theorem pX(h:∀j,j<I->C j=u j):(List.range I).flatMap C=(List.range I).flatMap u:=dQ (fun j a=>h j (Up.1 a))
theorem fN(h:∀j,j<I->C j=u j):(List.range (I+1)).flatMap C=(List.range I).flatMap u++C I:=by
 rw[Vr,Vz,pX h];simp
theorem rH(b:i8 i x x.length):kB (i++A) x=kB i x:=by
 unfold kB;exact pX (fun j a=>by have:=IY (U:=A) (M:=[]) b j a;rw[UE]at this;exact this)
theorem vn(b:i8 i x x.length):kB (i++A) (x++[g])=kB i x++NC (i++A) (x++[g]) x.length:=by
 unfold kB;rw[cY];exact fN (fun j a=>IY b j a)
theorem tC.same(h:tC i x N)(d:i8 i x x.length)(m:m8 i x x.length)(e:z2.Ye=N.Ye)(f:z2.Yf=N.Yf)(g:z2.Yl=N.Yl)(k:z2.Yo=N.Yo)(b:z2.Yy=N.Yy):tC (i++A) x z2:=by
 have c:∀j,j<x.length->E0 (i++A) x j=E0 i x j:=fun j a=>by have:=qh (U:=A) (M:=[]) d j a;rw[UE]at this;exact this
 have l:∀j,j<x.length->JW (i++A) x j=JW i x j:=fun j a=>by have:=wN (U:=A) (M:=[]) d j a;rw[UE]at this;exact this
 have n:∀j,j<x.length->II (i++A) x j=II i x j:=fun j a=>by have:=wP (U:=A) (M:=[]) m j a;rw[UE]at this;exact this
 exact⟨by rw[e,pX l];exact h.con,fun o=>by rw[f,pX c];exact h.var o,by rw[g,b];exact h.act.congr c,by rw[k,b];exact h.typ.congr n⟩
theorem lF:aq (y++[g]) y.length=g:=vF y g
theorem tC.close(h:tC i x N)(c:i8 i x x.length)(n:m8 i x x.length)(s:Sm)(e:∀o,aP o s.k=o)(f:z2.Ye=N.Ye++JW (i++A) (x++[s]) x.length)(g:∀b,aJ z2.Yf b=(aJ N.Yf b||aJ (E0 (i++A) (x++[s]) x.length) b))(l:z2.Yl=N.Yl++E0 (i++A) (x++[s]) x.length)(m:z2.Yo=N.Yo++II (i++A) (x++[s]) x.length)(d:z2.Yy=N.Yy):tC (i++A) (x++[s]) z2 :=
 ⟨by rw[cY,fN (fun j a=>wN c j a),<-h.con];exact f,fun b=>by rw[cY,fN (fun j a=>qh c j a),xX,<-h.var];exact g b,
  by rw[l,d];exact h.act.norm s e (fun j a=>qh c j a),by rw[m,d];exact h.typ.norm s e (fun j a=>wP n j a)⟩
theorem C8(g:H.length<=100000)(a:∀j,j<H.length->aY H (aa H) j=0):aY (H++[B]) (aa (H++[B])) H.length =
  if H.length=fD H then dE H (aa H) B.s (aa H).length
  else if H.length<(eu (H++[B]) (fD H)).2 then(if(aA B.s||aG B.s)=true then 0 else 14)
  else mO H (aa H) (eu (H++[B]) (fD H)).1 B.s (aa H).length (eJ H (eu (H++[B]) (fD H)).2 H.length):=by
 obtain⟨d,k⟩:=Cg H g a;obtain⟨M,f,l⟩:=AV H [B];have p:=dN H;rw[f,Gn];generalize aa H=S at *;have i:jJ (S++M) H.length=S.length:=by
  unfold jJ;rw[ID H.length S M l];exact MW _ S S.length (fun q b=>⟨aq S q,Jn S q b,(p.s q b).2⟩) (fun s c=>by rw[UT (Ue _)]at c;cases c)
 unfold aY;rw[i,C3 S M _ (Ue _),oE];by_cases e:H.length=lk S S.length
 ·rw[Uf e,Uf e,Ak _ d]
 ·rw[Ud e,Ud e];split
  ·rfl
  ·next m=>rw[Et _ _ _ d k,Iz H [B] _ _ (by omega) (Ue _)]
theorem EP(h:tC i x N)(b:N.Yk=kB i x)(a:Xs):jT i x a x.length=eD N a:=by
 unfold jT eD;rw[uh,uY,Fq,<-h.con,<-h.var,b,WD];rfl
theorem LO(h:tC i x N)(b:N.Yk=kB i x)(a:Xs):(decide (0<=bB i x a x.length)||(eO i x a x.length||iI i x a x.length))=ff N a:=by
 unfold ff;rw[uh,uY,Js,<-h.con,<-h.act.l,b,WD];rfl
theorem Dm(h:tC i x N):bq x x.length=(N.Yy.length:Int):=by
 have:=h.act.b;rw[Uy]at this;exact this.symm
theorem sN(h:z.toList=r)(o:Int):aP o z=if(r == [36,125])=true then(if(r == [36,123])=true then o+1 else o)-1 else(if(r == [36,123])=true then o+1 else o):=by
 unfold aP;rw[h]
theorem j7{k:Xs}(h:k.toList=r):aA k=((r == [36,97])||(r == [36,112]))/\aG k=((r == [36,102])||(r == [36,101]))/\cd k=((r == [36,46])||(r == [36,123])||(r == [36,125])):=by
 unfold aA aG cd;rw[h];exact⟨rfl,rfl,rfl⟩
theorem GU(h:z.toList=r):io z ⟨#[36]⟩=io ⟨r.toArray⟩ ⟨#[36]⟩:=by
 rw[qN (x:=z) (l:=r) (by rw[h];simp)]
theorem fw.dep(h:fw z.toList z4):(∀o,aP o z=o)/\io z ⟨#[36]⟩=true/\cd z=false:=by
 generalize hl:z.toList=l at h;have a:=fun o=>sN hl o;have b:=GU hl;have c:=(j7 hl).2.2
 (rcases h with ⟨rfl,rfl⟩ | ⟨rfl,rfl⟩ | ⟨rfl,rfl⟩ | ⟨rfl,rfl⟩ | ⟨rfl,rfl⟩ | ⟨rfl,rfl⟩ | ⟨rfl,rfl⟩) <;> exact⟨fun o=>a o,b.trans (by decide +kernel),c⟩
section
variable {T:List Tk} {t:Tk} {d:Db}
theorem Ec(b:fD T=T.length)(a:io t.s ⟨#[36]⟩=true):eu (T++[t]) (fD T)=(t.s,T.length+1):=by
 unfold eu;rw[b,oE,a];simp
theorem pi(a:eu T (fD T)=(z,I))(f:fD T<I)(g:I<=T.length)(d:fw z.toList z4):eu (T++[t]) (fD T)=(z,I):=by
 rw[<-a];by_cases h:fD T+1<T.length
 ·exact BU T [t] _ h
 ·have e:eu T (fD T)=(tS T (fD T),fD T+1):=by
   unfold eu;rw[Uf (by simp;right;omega)]
  rw[a]at e;have c:z=tS T (fD T):=congrArg Prod.fst e;have b:=d.dep.2.1;rw[c]at b;unfold eu;rw[fY T [t] _ (by omega),b];simp
theorem mt(T:List Tk)(h:Nat):eJ T h T.length=(T.drop h).map (·.s):=by
 unfold eJ;rw[VG (by rw[UX];exact Ue _)]
theorem MM(t:Tk)(h:Nat)(a:h<=T.length):eJ (T++[t]) h (T++[t]).length=eJ T h T.length++[t.s]:=by
 rw[mt,mt,U9 a];simp
theorem tM(L:List Tk)(t:Tk)(c:∀u∈L,(u.s.toList == [36,46])=false)(e:(t.s.toList == [36,46])=true):lQ (L++[t])=(L.map (·.s)).takeWhile jE:=by
 induction L with
 | nil=>rw[Wz,lQ,Uf (uH e)];rfl
 | cons a L g =>
  have d:=c a (by simp);rw[Wc,lQ,VW];cases b:(a.s.toList == [36,61])
  ·rw[Ud (by unfold od;rw[d,b];simp),VL (by unfold jE;rw[b];rfl),g (fun u f=>c u (by simp[f]))]
  ·rw[Uf (by unfold od;rw[b];rfl),V5 (by unfold jE;rw[b];simp)]
theorem vt(T:List Tk)(h:Nat)(a:fD T<=h):∀u∈T.drop h,cd u.s=false:=by
 intro u c;obtain⟨q,b,e⟩:=U7 c;rw[UX]at b;have:=(dN T).n (h+q) (by unfold fD at a;omega) (by omega);rw[WJ]at e;unfold tS at this;rw[Uc,Ub (by omega)]at this;rw[<-e];exact this
theorem Nm(h:aJ m ⟨#[36,61]⟩=false):∀y∈m,jE y=true:=by
 intro y a;unfold aJ at h;rw[WH]at h;have:=h y a;have e:(⟨#[36,61]⟩:Xs).toList=[36,61]:=by decide +kernel
 rw[e]at this;unfold jE;simpa using this
theorem LX(B:Xt)(h:∀y∈B,jE y=true):B.takeWhile jE=B:=by
 induction B with
 | nil=>rfl
 | cons a B c=>rw[VL (h a (by simp)),c (fun y b=>h y (by simp[b]))]
theorem ua(h:aJ m ⟨#[36,61]⟩=false):m.takeWhile jE=m:=LX m (Nm m h)
theorem OG(B:Xt)(y:Xs)(h:aJ B ⟨#[36,61]⟩=true):(B++[y]).takeWhile jE=B.takeWhile jE:=by
 have e:(⟨#[36,61]⟩:Xs).toList=[36,61]:=by decide +kernel
 induction B with
 | nil=>cases h
 | cons a B d =>
  rw[Wc];cases b:(a.toList == [36,61])
  ·have c:aJ B ⟨#[36,61]⟩=true:=by
    unfold aJ at h ⊢;rw[Wp,e,b,Vn]at h;rw[e];exact h
   rw[VL (by unfold jE;rw[b];rfl),VL (by unfold jE;rw[b];rfl),d c]
  ·rw[V5 (by unfold jE;rw[b];simp),V5 (by unfold jE;rw[b];simp)]
end
theorem cK{m:List UInt8}(h:(z.toList==r)=true):(z.toList==m)=(r==m):=by
 have:z.toList=r:=by simpa using h
 rw[this]
theorem dw(h:(z.toList==r)=true):z.toList=r:=by simpa using h
section
variable {T:List Tk} {t:Tk} {d:Db}
theorem nF(d:fD T=T.length)(c:cd t.s=true):aa (T++[t])=aa T++[⟨fD T,T.length+1,T.length+1,t.s⟩]/\fD (T++[t])=(T++[t]).length:=by
 obtain⟨a,b⟩:=oc T t;rw[Uf c,Ec d (lH c).1]at a;rw[Uf c]at b;exact⟨a,by rw[b];simp⟩
theorem ma(c:cd t.s=false):aa (T++[t])=aa T/\fD (T++[t])=fD T:=by
 obtain⟨a,b⟩:=oc T t;rw[Ud (by rw[c];simp)]at a b;exact⟨a,b⟩
theorem Rh{S:List Sm}{s:Sm}{U:List Tk}(a:(s.k.toList == [36,118])=false)(b:(s.k.toList == [36,99])=false)(c:(s.k.toList == [36,102])=false):E0 U (S++[s]) S.length=[]/\JW U (S++[s]) S.length=[]/\II U (S++[s]) S.length=[]:=by
 unfold E0 JW II;rw[lF,a,b,c];exact⟨rfl,rfl,rfl⟩
theorem FW{S:List Sm}{s:Sm}{U:List Tk}(h:(aA s.k||aG s.k)=false):NC U (S++[s]) S.length=[]:=by
 have e:bD U s=⟨#[]⟩:=by unfold bD;rw[h,Ud (by simp)]
 unfold NC;rw[lF,e,Uf pT]
theorem P9(h:(aA z5.k||aG z5.k)=true)(b:((tS i z5.a).toList == [])=false):NC i (x++[z5]) x.length=[tS i z5.a]:=by
 have e:bD i z5=tS i z5.a:=by unfold bD;rw[h,Uf rfl]
 unfold NC;rw[lF,e,Ud (by rw[b];simp)]
theorem GT(w:i8 T (aa T) (aa T).length)(R:m8 T (aa T) (aa T).length)(I:tC T (aa T) d)(M:fD T=T.length)(hk:d.Yw=0)(F:d.Yc=[])(B:d.Yg=false)(O:d.Yk=kB T (aa T))(hx:(t.s.toList == [])=false) :
  dE T (aa T) t.s (aa T).length=(ay d t.s).1/\((ay d t.s).1=0->tC (T++[t]) (aa (T++[t])) (ay d t.s).2/\uN (T++[t]) (ay d t.s).2):=by
 have E:=Dm I;have ac:=EP I O t.s
 -- a keyword of a statement without a Yx
 have G:∀{n:Int} {Q:Db},fw t.s.toList n->(aA t.s||aG t.s)=false->Q={ d with Yw:=n }->tC (T++[t]) (aa (T++[t])) Q/\uN (T++[t]) Q:=fun {n Q} u H e=>by
  obtain⟨y,D⟩:=ma (T:=T) (t:=t) u.dep.2.2;have N:eu (T++[t]) (fD (T++[t]))=(t.s,T.length+1):=by rw[D];exact Ec M u.dep.2.1
  have hB:eJ (T++[t]) (T.length+1) (T++[t]).length=[]:=by rw[mt];simp
  subst e;refine⟨by rw[y];exact I.same w R rfl rfl rfl rfl rfl,uN.body t.s (T.length+1) [] N (by rw[D];omega) (by simp) u hB (by rw[jA];exact B) F (fun h=>by rw[B]at h;cases h) ?_ (fun h=>by rw[H]at h;cases h)⟩;rw[y,H,Ud (by simp),UE,rH w];exact O
 cases b:(t.s.toList == [36,123])
 ·cases f:(t.s.toList == [36,125])
  ·cases l:(t.s.toList == [36,99])
   ·cases g:(t.s.toList == [36,118])
    ·cases m:(t.s.toList == [36,100])
     ·cases z:(aA t.s||aG t.s)
      ·have h7:(t.s.toList == [36,102])=false/\(t.s.toList == [36,101])=false/\(t.s.toList == [36,97])=false/\(t.s.toList == [36,112])=false:=by
        unfold aA aG at z;simp only[Bool.or_eq_false_iff]at z;exact⟨z.2.1,z.2.2,z.1.1,z.1.2⟩
       obtain⟨g1,g2,g3,g4⟩:=h7;have k:ay d t.s=bU d t.s:=by
        unfold ay;rw[b,f,l,g,m,g1,g2,g3,g4];simp
       have i:dE T (aa T) t.s (aa T).length=if io t.s ⟨#[36]⟩=true then 8 else if iB t.s=false then 12 else if eD d t.s=true then 13 else 0:=by
        unfold dE;rw[b,f,l,g,m,z,ac];simp
       rw[k,i,iV];unfold bU;cases k1:dD t.s
       ·cases k2:iB t.s
        ·exact⟨rfl,fun h=>by simp at h⟩
        ·cases k3:eD d t.s
         ·refine⟨rfl,fun _=>?_⟩;have C:cd t.s=false:=by
           cases K:cd t.s
           ·rfl
           ·have:=(lH K).1;rw[iV,k1]at this;cases this
          obtain⟨y,D⟩:=ma (T:=T) (t:=t) C;have X:tS (T++[t]) (fD (T++[t]))=t.s:=(by rw[D,M,oE]);simp only[Bool.false_eq_true,if_false];exact⟨by rw[y];exact I.same w R rfl rfl rfl rfl rfl,uN.lab (by rw[D,M];simp) rfl F B (by rw[X,y,rH w,<-O];rfl) (by rw[X];exact hx) (by rw[X,iV];exact k1)⟩
         ·exact⟨rfl,fun h=>by simp at h⟩
       ·exact⟨rfl,fun h=>by simp at h⟩
      ·have k:ay d t.s=(11,d):=by
        unfold ay;rw[b,f,l,g,m];unfold aA aG at z;rw[Ud (by simp),Ud (by simp),Ud (by simp),Ud (by simp),Ud (by simp),Uf];simp only[Bool.or_eq_true]at z;rcases z with (h | h) | (h | h)
        ·exact Uo (Uo (Us h))
        ·exact Uo (Uo (Uo h))
        ·exact Us h
        ·exact Uo (Us h)
       have i:dE T (aa T) t.s (aa T).length=11:=by
        unfold dE;rw[b,f,l,g,m,z];simp
       rw[k,i];exact⟨rfl,fun h=>by cases h⟩
     ·have u:=fw.d;rw[<-dw m]at u;have k:ay d t.s=(0,{ d with Yw:=1 }):=by
       unfold ay;rw[b,f,l,g,m];simp
      have i:dE T (aa T) t.s (aa T).length=0:=by
       unfold dE;rw[m];simp
      rw[k,i];exact⟨rfl,fun _=>G u (by rw[(j7 (dw m)).1,(j7 (dw m)).2.1];decide) rfl⟩
    ·have u:=fw.v;rw[<-dw g]at u;have k:ay d t.s=(0,{ d with Yw:=8 }):=by
      unfold ay;rw[b,f,l,g];simp
     have i:dE T (aa T) t.s (aa T).length=0:=by
      unfold dE;rw[g];simp
     rw[k,i];exact⟨rfl,fun _=>G u (by rw[(j7 (dw g)).1,(j7 (dw g)).2.1];decide) rfl⟩
   ·have u:=fw.c;rw[<-dw l]at u;have g:(t.s.toList == [36,118])=false:=by rw[cK l];decide
    have m:(t.s.toList == [36,100])=false:=(by rw[cK l];decide);by_cases A:0<d.Yy.length
    ·have k:ay d t.s=(10,d):=by
      unfold ay;rw[b,f,l];simp[A]
     have i:dE T (aa T) t.s (aa T).length=10:=by
      unfold dE;rw[b,f,l,g,m,E,Vy (show(0:Int)<(d.Yy.length:Int) by omega)];simp
     rw[k,i];exact⟨rfl,fun h=>by cases h⟩
    ·have k:ay d t.s=(0,{ d with Yw:=7 }):=by
      unfold ay;rw[b,f,l,Ud (by simp),Ud (by simp),Uf rfl,Ud A]
     have i:dE T (aa T) t.s (aa T).length=0:=by
      unfold dE;rw[b,f,l,g,m,E,Vx (show ¬(0:Int)<(d.Yy.length:Int) by omega)];simp
     rw[k,i];exact⟨rfl,fun _=>G u (by rw[(j7 (dw l)).1,(j7 (dw l)).2.1];decide) rfl⟩
  ·have g:(t.s.toList == [36,118])=false:=(by rw[cK f];decide);have m:(t.s.toList == [36,100])=false:=(by rw[cK f];decide);have K:cd t.s=true:=(by rw[(j7 (dw f)).2.2];decide);have k:ay d t.s=(match d.Yy.getLast? with | none=>(9,d) | some p=>(0,dc d p)):=by
    unfold ay;rw[b,f,Ud (by simp),Uf rfl];rfl
   cases A:d.Yy.getLast? with
   | none =>
    have J:d.Yy.length=0:=(by rw[List.getLast?_eq_none_iff]at A;rw[A];rfl);have i:dE T (aa T) t.s (aa T).length=9:=by
     unfold dE;rw[b,f,g,m,E,J];simp
    rw[k,i,A];exact⟨rfl,fun h=>by cases h⟩
   | some q =>
    have C:d.Yy≠[]:=fun e=>by rw[e]at A;cases A
    have Y:d.Yy=d.Yy.dropLast++[q]:=by
     have:=WB C;rw[We C]at A;cases A
     exact this.symm
    have J:0<d.Yy.length:=WR.2 C;have i:dE T (aa T) t.s (aa T).length=0:=by
     unfold dE;rw[b,f,g,m,E,show((d.Yy.length:Int)==0)=false by simp;omega];simp
    rw[k,i,A];refine⟨rfl,fun _=>?_⟩;obtain⟨y,D⟩:=nF (T:=T) (t:=t) M K;have P:∀o,aP o t.s=o-1:=fun o=>by rw[sN (dw f)];rfl
    obtain⟨V,n2,n3⟩:=Rh (S:=aa T) (s:=⟨fD T,T.length+1,T.length+1,t.s⟩) (U:=T++[t]) g (by show(t.s.toList==_)=false;rw[cK f];decide) (by show(t.s.toList==_)=false;rw[cK f];decide);have Z:=FW (S:=aa T) (s:=⟨fD T,T.length+1,T.length+1,t.s⟩) (U:=T++[t]) (by show(aA t.s||aG t.s)=false;rw[(j7 (dw f)).1,(j7 (dw f)).2.1];decide);have H:=I.act;have hy:=I.typ;rw[Y,UJ]at H hy;have L:(dc d q).Ye=d.Ye/\(dc d q).Yf=d.Yf/\(dc d q).Yl=d.Yl.take q.1/\(dc d q).Yo=d.Yo.take q.2/\(dc d q).Yy=d.Yy.dropLast/\(dc d q).Yw=d.Yw/\(dc d q).Yc=d.Yc/\(dc d q).Yg=d.Yg/\(dc d q).Yk=d.Yk:=by
     unfold dc dA;split <;> exact⟨rfl,rfl,rfl,rfl,rfl,rfl,rfl,rfl,rfl⟩
    obtain⟨d1,d2,d3,d4,d5,d6,d7,d8,d9⟩:=L;simp only;rw[y];refine⟨⟨?_,fun x=>?_,?_,?_⟩,uN.none D (by rw[d6];exact hk) (by rw[d7];exact F) (by rw[d8];exact B) ?_⟩
    ·rw[d1,cY,fN (fun j r=>wN w j r),n2,UE];exact I.con
    ·rw[d2,cY,fN (fun j r=>qh w j r),V,UE];exact I.var x
    ·rw[d3,d5];exact H.pop ⟨fD T,T.length+1,T.length+1,t.s⟩ P (fun j r=>qh w j r)
    ·rw[d4,d5];exact hy.pop ⟨fD T,T.length+1,T.length+1,t.s⟩ P (fun j r=>wP R j r)
    ·rw[d9,y,vn _ w,Z,UE];exact O
 ·have g:(t.s.toList == [36,118])=false:=by rw[cK b];decide
  have K:cd t.s=true:=by rw[(j7 (dw b)).2.2];decide
  have k:ay d t.s=(0,{ d with Yy:=d.Yy++[(d.Yl.length,d.Yo.length)],rbl:=d.rbl++[d.Yt.length] }):=by
   unfold ay;rw[b,Uf rfl]
  have i:dE T (aa T) t.s (aa T).length=0:=by
   unfold dE;rw[b];simp
  rw[k,i];refine⟨rfl,fun _=>?_⟩;obtain⟨y,D⟩:=nF (T:=T) (t:=t) M K;have P:∀o,aP o t.s=o+1:=fun o=>by rw[sN (dw b)];rfl
  obtain⟨V,n2,n3⟩:=Rh (S:=aa T) (s:=⟨fD T,T.length+1,T.length+1,t.s⟩) (U:=T++[t]) g (by show(t.s.toList==_)=false;rw[cK b];decide) (by show(t.s.toList==_)=false;rw[cK b];decide);have Z:=FW (S:=aa T) (s:=⟨fD T,T.length+1,T.length+1,t.s⟩) (U:=T++[t]) (by show(aA t.s||aG t.s)=false;rw[(j7 (dw b)).1,(j7 (dw b)).2.1];decide);simp only;rw[y];refine⟨⟨?_,fun x=>?_,?_,?_⟩,uN.none D hk F B ?_⟩
  ·rw[cY,fN (fun j r=>wN w j r),n2,UE];exact I.con
  ·rw[cY,fN (fun j r=>qh w j r),V,UE];exact I.var x
  ·simp only[List.map_append,List.map_cons,List.map_nil];exact I.act.push ⟨fD T,T.length+1,T.length+1,t.s⟩ P (fun j r=>qh w j r) V
  ·simp only[List.map_append,List.map_cons,List.map_nil];exact I.typ.push ⟨fD T,T.length+1,T.length+1,t.s⟩ P (fun j r=>wP R j r) n3
  ·rw[y,vn _ w,Z,UE];exact O
theorem Ou(z:i8 T (aa T) (aa T).length)(A:m8 T (aa T) (aa T).length)(I:tC T (aa T) d)(y:fD T+1=T.length)(u:d.Yc=[])(j:d.Yg=false)(D:d.Yk=kB T (aa T)++[tS T (fD T)])(B:((tS T (fD T)).toList == [])=false)(r:io (tS T (fD T)) ⟨#[36]⟩=false) :
  eu (T++[t]) (fD T)=(t.s,T.length+1)/\(if(aA t.s||aG t.s)=true then(0:Int) else 14)=(aI d t.s).1/\((aI d t.s).1=0->tC (T++[t]) (aa (T++[t])) (aI d t.s).2/\uN (T++[t]) (aI d t.s).2):=by
 have i:eu (T++[t]) (fD T)=(t.s,T.length+1):=by
  unfold eu;rw[fY T [t] _ (by omega),r,Ud (by simp;omega),y,oE,<-y]
 have g:∀{n:Int},fw t.s.toList n->(aA t.s||aG t.s)=true->tC (T++[t]) (aa (T++[t])) { d with Yw:=n }/\uN (T++[t]) { d with Yw:=n }:=fun {n} c b=>by
  obtain⟨w,k⟩:=ma (T:=T) (t:=t) c.dep.2.2;have C:eJ (T++[t]) (T.length+1) (T++[t]).length=[]:=by rw[mt];simp
  have x:tS (T++[t]) (fD (T++[t]))=tS T (fD T):=by rw[k,fY T [t] _ (by omega)]
  refine⟨by rw[w];exact I.same z A rfl rfl rfl rfl rfl,uN.body t.s (T.length+1) [] (by rw[k];exact i) (by rw[k];omega) (by simp) c C (by rw[jA];exact j) u (fun h=>by rw[show({ d with Yw:=n }:Db).Yg=d.Yg from rfl,j]at h;cases h) ?_ (fun _=>by rw[x];exact B)⟩;rw[w,b,Uf rfl,rH z,x];exact D
 refine⟨i,?_⟩;unfold aI;cases l:(t.s.toList == [36,102])
 ·cases m:(t.s.toList == [36,101])
  ·cases o:(t.s.toList == [36,97])
   ·cases q:(t.s.toList == [36,112])
    ·have b:(aA t.s||aG t.s)=false:=(by unfold aA aG;rw[l,m,o,q];rfl);rw[b];exact⟨rfl,fun h=>by simp at h⟩
    ·have b:(aA t.s||aG t.s)=true:=(by unfold aA aG;rw[q];simp);have c:=fw.p;rw[<-dw q]at c;rw[b];exact⟨rfl,fun _=>g c b⟩
   ·have b:(aA t.s||aG t.s)=true:=(by unfold aA aG;rw[o];simp);have c:=fw.a;rw[<-dw o]at c;rw[b];exact⟨rfl,fun _=>g c b⟩
  ·have b:(aA t.s||aG t.s)=true:=(by unfold aA aG;rw[m];simp);have c:=fw.e;rw[<-dw m]at c;rw[b];exact⟨rfl,fun _=>g c b⟩
 ·have b:(aA t.s||aG t.s)=true:=by unfold aA aG;rw[l];simp
  have c:=fw.f;rw[<-dw l]at c;rw[b];exact⟨rfl,fun _=>g c b⟩
end
end Go.Proofs.YtnbhnocdhbcbcaaGreat
