import Derived.Test.YtnbhnocdhbcbcaaGreatK05
import Derived.Test.YtnbhnocdhbcbcaaGreatK15
namespace Go.Proofs.YtnbhnocdhbcbcaaGreat
open Go.RowKit Tryz
open Value IntKind Ending
set_option maxHeartbeats 0
variable{z4:Int}{i A:List Tk}{I zt:Nat}{z6 y1:Nat->Bool}{x:List Sm}{u C:Nat->Xt}{z5:Sm}{z3:Xt}{E:Xv}{N z2:Db}{r:List UInt8}{z:Xs}(L:Xs)(o H:List Tk)(F y:List Sm)(D:Nat)(z7:Int)(z0:Xv)(l:Xs)(b:Nat)(y0:Bool)(m:Xt)(w:Xs)(z1:Nat->Bool)(B:Tk)(g:Sm)
def mg(nm d:Xs)(i:tC):Tk:=⟨i.text,i.X6,nm,aU d i.pos,bJ d i.pos⟩
def Qy(nm d:Xs):Nat->Nat->List Tk
 | 0,_=>[]
 | f+1,k=>mg nm d (bQ d k).1 :: (if aM (bQ d k).1=true then Qy nm d f (bQ d k).2 else [])
def n8(nm d:Xs)(k:Nat):List Tk:=Qy nm d (d.size-k+1) k
theorem OC(f k:Nat)(a:k<=w.size)(b:w.size-k+1<=f):Qy l w f k=n8 l w k:=by
 unfold n8
 suffices h:∀f g k,k<=w.size->w.size-k+1<=f->w.size-k+1<=g->Qy l w f k=Qy l w g k from h _ _ _ a b (Tq _)
 clear b a f k;intro f
 induction f with
 | zero=>intro g k _ h;omega
 | succ f e =>
  intro g k a b i;cases g with
  | zero=>omega
  | succ g =>
   rw[Qy,Qy];split
   ·next h =>
    have c:=il w k a;have d:=c.2.2 h;rw[e g _ c.2.1 (by omega) (by omega)]
   ·rfl
theorem l9(c:b<=l.size)(h:aM (bQ l b).1=true):n8 L l b=mg L l (bQ l b).1 :: n8 L l (bQ l b).2:=by
 have a:=il l b c;have d:=a.2.2 h
 conv=>lhs;unfold n8
 rw[Qy,Tr h,OC L l _ _ a.2.1 (by omega)]
theorem kM(h:aM (bQ l b).1=false):n8 L l b=[mg L l (bQ l b).1]:=by
 unfold n8;rw[Qy,Tp (by simp[h])]
theorem Gk(h:b<l.size)(a:dn (aI l b)=true):bQ l b=bQ l (b+1):=by
 unfold bQ;rw[IT l b h a]
theorem wi(h:b<l.size)(c:dn (aI l b)=true):n8 L l b=n8 L l (b+1):=by
 have e:=Gk l b h c;cases a:aM (bQ l b).1
 ·rw[kM L l b a,kM L l (b+1) (by rw[<-e];exact a),e]
 ·rw[l9 L l b (by omega) a,l9 L l (b+1) (by omega) (by rw[<-e];exact a),e]
theorem EJ(n:Nat):∀a,(∀j,a<=j->j<a+n->j<w.size/\dn (aI w j)=false/\fV (aI w j)=true)->dh w a=dh w (a+n):=by
 induction n with
 | zero=>intro a _;rfl
 | succ n c =>
  intro a h;have b:=h a (by omega) (by omega);rw[Jb w a b.1 b.2.1 b.2.2,c (a+1) (fun j d e=>h j (by omega) (by omega))];congr 1;omega
theorem E3(h:rR z4=false)(a:dn z4=false):fV z4=true:=by
 unfold rR at h;rw[a]at h;simpa using h
theorem Ee(a:D<b)(i:b<=L.size)(c:∀j,D<=j->j<b->dn (aI L j)=false/\fV (aI L j)=true)(f:b<L.size->dn (aI L b)=true):bQ L D=(⟨L.extract D b,0,false,D⟩,b):=by
 have d:=EJ L (b-D) D (fun j e g=>⟨by omega,c j e (by omega)⟩);rw[show D+(b-D)=b by omega]at d;refine Ao L D D b (uC L D (fun h=>?_)).symm d.symm (fun h=>?_) a
 ·rw[(c D (Tq _) a).1]at h;simp at h
 ·rw[f h.1]at h;simp at h
theorem po(i:Nat):∀j,dJ w i<=j->j<i->dn (aI w j)=false:=by
 induction i with
 | zero=>intro j _ h;omega
 | succ i c =>
  intro j a d;rw[dJ]at a;split at a
  ·omega
  ·next b =>
   by_cases e:j=i
   ·rw[e];simpa using b
   ·exact c j a (by omega)
theorem y8(i:Nat)(k:i<=w.size)(f:∀j,j<i->rR (aI w j)=false):n8 l w 0=jN l w i++n8 l w (dJ w i):=by
 induction i with
 | zero=>rfl
 | succ i b =>
  have b:=b (by omega) (fun j m=>f j (by omega));rw[jN,dJ];cases a:dn (aI w i)
  ·rw[Tp (by simp),Tp (by simp)];exact b
  ·rw[Tr rfl,Tr rfl];have n:=pq w i;unfold jO;split
   ·next e =>
    rw[b,e,wi l w i (by omega) a]
   ·next e =>
    have g:=Ee w (dJ w i) i (by omega) (by omega) (fun j c d=>⟨po w i j c d,E3 (f j (by omega)) (po w i j c d)⟩) (fun _=>a);rw[b,l9 l w (dJ w i) (by omega) (by rw[g];rfl),g,<-wi l w i (by omega) a];simp[mg,na]
theorem GZ:iY l w=n8 l w 0:=by
 unfold iY;cases d:ke w with
 | some i =>
  unfold ke at d;rw[UT]at d;obtain⟨b,c,r⟩:=d;have c:=TG.1 c;have f:∀j,j<i->rR (aI w j)=false:=fun j m=>by simpa using r j m
  have p:=pq w i;have g:∀j,dJ w i<=j->j<dJ w i+(i-dJ w i)->j<w.size/\dn (aI w j)=false/\fV (aI w j)=true:=fun j b c=>⟨by omega,po w i j b (by omega),E3 (f j (by omega)) (po w i j b (by omega))⟩
  have n:fV (aI w i)=false/\dn (aI w i)=false:=by
   unfold rR at b;simpa using b
  have q:=EJ w (i-dJ w i) (dJ w i) g;rw[show dJ w i+(i-dJ w i)=i by omega]at q
  have o:dJ w i=skip w (dJ w i):=(uC w _ (fun h=>by
   by_cases e:dJ w i=i
   ·rw[e,n.2]at h;simp at h
   ·rw[(g (dJ w i) (Tq _) (by omega)).2.1]at h;simp at h)).symm
  have k:=Ec w (dJ w i) (dJ w i) i o q.symm c n.2 n.1;simp only;rw[y8 l w i (by omega) f,kM l w (dJ w i) (by rw[k];rfl),k];simp[mg,na]
 | none =>
  have f:∀j,j<w.size->rR (aI w j)=false:=fun j m=>by
   unfold ke at d;rw[UE]at d;simpa using d j (TG.2 m)
  have p:=pq w w.size;have a:bQ w w.size=(⟨⟨#[]⟩,0,true,w.size⟩,w.size):=Ed w w.size w.size w.size (uC w _ (fun h=>by omega)).symm rfl (fun h=>by omega) (Tq _);simp only;rw[y8 l w w.size (Tq _) f];unfold jO;split
  ·next e =>
   rw[e,kM l w w.size (by rw[a];rfl),a];simp[mg,na]
  ·next e =>
   have k:=Ee w (dJ w w.size) w.size (by omega) (Tq _) (fun j b c=>⟨po w _ j b c,E3 (f j c) (po w _ j b c)⟩) (fun h=>by omega);rw[l9 l w (dJ w w.size) p (by rw[k];rfl),k,kM l w w.size (by rw[a];rfl),a];simp[mg,na]
def Qp(nm d:Xs):Nat->Nat->List Tk
 | 0,_=>[]
 | f+1,k=>mg nm d (aC d k).1 :: (if aM (aC d k).1=true then Qp nm d f (aC d k).2 else [])
def mN(nm d:Xs)(k:Nat):List Tk:=Qp nm d (d.size-k+1) k
theorem Og(f k:Nat)(a:k<=w.size)(b:w.size-k+1<=f):Qp l w f k=mN l w k:=by
 unfold mN
 suffices h:∀f g k,k<=w.size->w.size-k+1<=f->w.size-k+1<=g->Qp l w f k=Qp l w g k from h _ _ _ a b (Tq _)
 clear b a f k;intro f
 induction f with
 | zero=>intro g k _ h;omega
 | succ f e =>
  intro g k a b i;cases g with
  | zero=>omega
  | succ g =>
   rw[Qp,Qp];split
   ·next h =>
    have c:=gq w k a;have d:=c.2.2 h;rw[e g _ c.2.1 (by omega) (by omega)]
   ·rfl
theorem kK(c:b<=l.size)(h:aM (aC l b).1=true):mN L l b=mg L l (aC l b).1 :: mN L l (aC l b).2:=by
 have a:=gq l b c;have d:=a.2.2 h
 conv=>lhs;unfold mN
 rw[Qp,Tr h,Og L l _ _ a.2.1 (by omega)]
theorem kJ(h:aM (aC l b).1=false):mN L l b=[mg L l (aC l b).1]:=by
 unfold mN;rw[Qp,Tp (by simp[h])]
theorem GC(j:Nat)(d:b<=l.size)(c:j<=l.size)(h:aC l b=aC l j):mN L l b=mN L l j:=by
 cases a:aM (aC l b).1
 ·rw[kJ L l b a,kJ L l j (by rw[<-h];exact a),h]
 ·rw[kK L l b d a,kK L l j c (by rw[<-h];exact a),h]
theorem IY(c:UInt8):ij w ⟨#[36,c]⟩=(List.range w.size).any (fun i=>decide (1<=i)&&(aI w (i-1)==36)&&(aI w i==(c.toNat:Int))):=by
 have d:(⟨#[36,c]⟩:Xs).size=2:=rfl;have b:∀i,i+2<=w.size->(tp w ⟨#[36,c]⟩ i=((aI w i==36)&&(aI w (i+1)==(c.toNat:Int)))):=fun i a=>by
  have e:(w.extract i (i+2)).toList=[w[i]'(by omega),w[i+1]'(by omega)]:=by
   apply WC
   ·rw[Uo];simp;omega
   ·intro n m k;simp only[List.length_cons,List.length_nil]at k;have l:n=0∨n=1:=by omega
    simp only[ByteArray.toList_eq,ByteArray.data_extract,Array.getElem_toList,Array.getElem_extract];rcases l with rfl | rfl <;> rfl
  unfold tp;rw[d,e,bZ w i (by omega),bZ w (i+1) (by omega)];have j:(⟨#[36,c]⟩:Xs).toList=[36,c]:=by rw[Uo]
  rw[j];have f:∀x:UInt8,((x.toNat:Int)==36)=(x==36):=fun x=>by
   rw[UL];simp only[beq_iff_eq];constructor
   ·intro h;exact UInt8.toNat_inj.1 (by rw[show x.toNat=36 by omega];rfl)
   ·rintro rfl;rfl
  have g:∀x:UInt8,((x.toNat:Int)==(c.toNat:Int))=(x==c):=fun x=>by
   rw[UL];simp only[beq_iff_eq];constructor
   ·intro h;exact UInt8.toNat_inj.1 (by omega)
   ·rintro rfl;rfl
  rw[f,g];simp[Bool.beq_eq_decide_eq,Bool.decide_and]
 unfold ij;rw[d,UL,Ut,Ut];constructor
 ·rintro ⟨i,a,h⟩;have a:=TG.1 a;rw[TN,UH]at h;rw[b i h.1]at h;exact⟨i+1,TG.2 (by omega),by rw[UM,TN,TN,UH];rw[TN]at h;exact⟨⟨by omega,h.2.1⟩,h.2.2⟩⟩
 ·rintro ⟨i,a,h⟩;have a:=TG.1 a;rw[TN,TN,UH]at h;refine⟨i-1,TG.2 (by omega),?_⟩;rw[TN,UH,b (i-1) (by omega),TN,show i-1+1=i by omega];exact⟨by omega,h.1.2,h.2⟩
theorem vO:lh w=(ij w ⟨#[36,40]⟩||ij w ⟨#[36,41]⟩):=by
 rw[IY,IY,UL,Ul];unfold lh;simp only[List.any_eq_true,Bool.and_eq_true,Bool.or_eq_true];constructor
 ·rintro ⟨i,c,b,a | a⟩
  ·exact TH ⟨i,c,b,a⟩
  ·exact TE ⟨i,c,b,a⟩
 ·rintro (⟨i,c,b,a⟩ | ⟨i,c,b,a⟩)
  ·exact⟨i,c,b,TH a⟩
  ·exact⟨i,c,b,TE a⟩
theorem iQ:ij w ⟨#[36]⟩=dD w:=by
 have b:(⟨#[36]⟩:Xs).size=1:=rfl;have a:∀i,i+1<=w.size->(tp w ⟨#[36]⟩ i=(aI w i==36)):=fun i c=>by
  have e:(w.extract i (i+1)).toList=[w[i]'(by omega)]:=by
   apply WC
   ·rw[Uo];simp;omega
   ·intro n j f;simp only[List.length_cons,List.length_nil]at f;have g:n=0:=by omega
    simp only[ByteArray.toList_eq,ByteArray.data_extract,Array.getElem_toList,Array.getElem_extract];subst g;rfl
  unfold tp;rw[b,e,bZ w i (by omega)];have d:(⟨#[36]⟩:Xs).toList=[36]:=by rw[Uo]
  rw[d,UL];simp only[beq_iff_eq,List.cons.injEq,and_true];constructor
  ·intro h;rw[h];rfl
  ·intro h;exact UInt8.toNat_inj.1 (by rw[show(w[i]'(by omega)).toNat=36 by omega];rfl)
 unfold ij dD;rw[b,UL,Ut,Ut];constructor
 ·rintro ⟨i,c,h⟩;rw[TN,UH]at h;rw[a i h.1]at h;exact⟨i,TG.2 (by omega),h.2⟩
 ·rintro ⟨i,c,h⟩;have c:=TG.1 c;exact⟨i,TG.2 (by omega),by rw[TN,UH,a i (by omega)];exact⟨by omega,h⟩⟩
theorem uA(c:b<=l.size):(aM (bQ l b).1=true->((bQ l b).1.text.toList == [])=false/\(bQ l b).1.X6=0)/\(aM (bQ l b).1=false->(bQ l b).1.text=⟨#[]⟩/\((bQ l b).1.XY=true->(bQ l b).1.X6=0)):=by
 have a:=BZ l b c;have d:=tw l (skip l b) a.2;unfold bQ;simp only;split
 ·exact⟨fun h=>by simp[aM]at h,fun _=>⟨rfl,fun h=>by cases h⟩⟩
 ·split
  ·exact⟨fun h=>by simp[aM]at h,fun _=>⟨rfl,fun _=>rfl⟩⟩
  ·next f g =>
   refine⟨fun _=>⟨?_,rfl⟩,fun h=>by simp[aM]at h⟩;have i:(l.extract (skip l b) (dh l (skip l b))).size=dh l (skip l b)-skip l b:=by
    rw[VY];omega
   cases e:((l.extract (skip l b) (dh l (skip l b))).toList == [])
   ·rfl
   ·have e:(l.extract (skip l b) (dh l (skip l b))).toList=[]:=(by simpa using e);have:=congrArg List.length e;rw[Uo]at this;have j:dh l (skip l b)-skip l b=0∨l.size-skip l b=0:=(by simpa using this);omega
theorem Mn(f:Nat):∀k,k<=w.size->w.size-k+1<=f ->
  b7 true (n8 l w k)=(if aM (bh w k).1=true then b7 false (n8 l w (bh w k).2) else [mg l w (bh w k).1]):=by
 induction f with
 | zero=>intro k _ h;omega
 | succ f o =>
  intro k i r;have j:=il w k i;obtain⟨p,q⟩:=uA w k i;cases a:aM (bQ w k).1
  ·obtain⟨d,e⟩:=q a;rw[kM l w k a];cases b:(bQ w k).1.XY
   ·have n:((bQ w k).1.X6==0)=false:=by
     unfold aM at a;rw[b]at a;simpa using a
    rw[vR w k a b,a,Tp (by simp),b7,Tr (by exact n)];rw[b7]
   ·rw[tP w k a b,Tp (by simp[aM]),b7,Tp (by simp[mg,e b]),Tp (by simp[mg,EL,d]),Tr (by simp[mg,EL,d]),b7];rfl
  ·obtain⟨d,e⟩:=p a;have m:=j.2.2 a;rw[l9 l w k i a];cases c:((bQ w k).1.text.toList == [36,41])
   ·cases g:lh (bQ w k).1.text
    ·rw[xo w k i a c g,b7,Tp (by simp[mg,e]),Tp (by simp only[mg,EL];rw[c];simp),Tp (by simp only[mg,EL];rw[d];simp),Tp (by rw[<-vO];simp only[mg];rw[g];simp)];exact o _ j.2.1 (by omega)
    ·rw[tO w k a c g,Tp (by simp[aM]),b7,Tp (by simp[mg,e]),Tp (by simp only[mg,EL];rw[c];simp),Tp (by simp only[mg,EL];rw[d];simp),Tr (by rw[<-vO];exact g)];rfl
   ·rw[rY w k a c,Tr a,b7,Tp (by simp[mg,e]),Tr (by simp only[mg,EL];exact c)]
theorem Jp(f:Nat):∀k,k<=w.size->w.size-k+1<=f->b7 false (n8 l w k)=mN l w k:=by
 induction f with
 | zero=>intro k _ h;omega
 | succ f j =>
  intro k d q;have i:=il w k d;obtain⟨r,o⟩:=uA w k d;cases b:aM (bQ w k).1
  ·obtain⟨m,p⟩:=o b;have a:=sX w k (TH b);rw[kM l w k b,kJ l w k (by rw[a];exact b),a,b7,Tp (by simp[mg,EL,m]),b7]
  ·have n:=i.2.2 b;rw[l9 l w k d b];cases e:((bQ w k).1.text.toList == [36,40])
   ·have a:=sX w k (TE e);rw[kK l w k d (by rw[a];exact b),a,b7,Tp (by simp only[mg,EL];rw[e];simp),j _ i.2.1 (by omega)]
   ·have g:=jF w (bQ w k).2 i.2.1;rw[b7,Tr (by simp only[mg,EL];exact e),Mn l w _ _ i.2.1 (Tq _)];cases c:aM (bh w (bQ w k).2).1
    ·have a:=vZ w k b e c;rw[Tp (by simp),kJ l w k (by rw[a];exact c),a]
    ·have a:=IF w k d b e c;rw[Tr rfl,j _ g.2 (by omega)];exact(GC l w k _ d g.2 a).symm
theorem Az(a:Fs)(k:Nat):su a k=mN (aG a k) (ak a k) 0:=by
 unfold su;rw[GZ];exact Jp _ _ _ 0 (Uc _) (Tq _)
theorem fY(h:b<o.length):tS (o++H) b=tS o b:=by
 unfold tS;rw[To,To,TQ h]
theorem om:tS (H++[B]) H.length=B.s:=by
 unfold tS;rw[To,TJ (Tq _),Uz];rfl
theorem Bv(h:b+1<o.length):eu (o++H) b=eu o b:=by
 unfold eu;rw[fY o H b (by omega),fY o H (b+1) h,Tv];have a:decide (o.length+H.length<=b+1)=false:=by simp;omega
 have c:decide (o.length<=b+1)=false:=by simp;omega
 rw[a,c]
theorem JZ(d:D<=b)(c:b<o.length)(a:ce (tS o b)=true):eu (o++H) D=eu o D:=by
 by_cases e:D=b
 ·subst e;unfold eu;rw[fY o H D c,(lz a).1];simp
 ·exact Bv o H D (by omega)
theorem xY(i:Nat)(c:i<=o.length):fF (o++H) i=fF o i:=by
 induction i with
 | zero=>rfl
 | succ i b =>
  rw[fF,fF,b (by omega),fY o H i (by omega)];cases a:ce (tS o i)
  ·rfl
  ·rw[JZ o H _ i (Nq o i) (by omega) a]
theorem FN(k:Nat):∃M,(fF H (b+k)).1=(fF H b).1++M/\∀m∈M,b<m.z:=by
 induction k with
 | zero=>exact⟨[],by simp,by simp⟩
 | succ k e =>
  obtain⟨M,a,c⟩:=e;rw[show b+(k+1)=(b+k)+1 by omega,fF];split
  ·refine⟨M++[⟨(fF H (b+k)).2,b+k+1,(eu H (fF H (b+k)).2).2,(eu H (fF H (b+k)).2).1⟩],by simp only[a,List.append_assoc],fun m d=>?_⟩;rcases Ug.1 d with h | h
   ·exact c m h
   ·rw[TI.1 h];show b<b+k+1;omega
  ·exact⟨M,a,c⟩
theorem Ax:∃M,aa (o++H)=aa o++M/\∀m∈M,o.length<m.z:=by
 obtain⟨M,a,b⟩:=FN (o++H) o.length H.length;refine⟨M,?_,b⟩;unfold aa;rw[Tv,a,xY o H _ (Tq _)]
def fB(T:List Tk):Nat:=(fF T T.length).2
theorem FS:fB H=ld (aa H) (aa H).length:=(dO H).fr
theorem nV:aa (H++[B])=(if ce B.s=true then aa H++[⟨fB H,H.length+1,(eu (H++[B]) (fB H)).2,(eu (H++[B]) (fB H)).1⟩] else aa H)/\fB (H++[B])=(if ce B.s=true then H.length+1 else fB H):=by
 unfold aa fB;rw[Tv,Uj,Uq,fF,xY H [B] H.length (Tq _),om];split <;> exact⟨rfl,rfl⟩
theorem jJ(h:b<F.length):aq (F++y) b=aq F b:=by
 unfold aq;rw[To,To,TQ h]
theorem CG(h:b<=F.length):ld (F++y) b=ld F b:=by
 unfold ld;split
 ·rw[jJ F y (b-1) (by omega)]
 ·rfl
theorem Ic(S M:List Sm)(h:∀m∈M,b<m.z):oA b (S++M)=oA b S:=by
 induction S with
 | nil =>
  cases M with
  | nil=>rfl
  | cons m M =>
   have:=h m (by simp)
   show(if m.z<=b then oA b M+1 else 0)=0
   rw[Tp (by omega)]
 | cons s S a=>rw[Vy,oA,oA,a]
theorem sG(h:b<=F.length):aO (F++y) D b=aO F D b:=by
 unfold aO;by_cases a:D<=F.length
 ·rw[UC a,UW (by rw[Ux];omega)]
 ·rw[show b-D=0 by omega];simp
theorem lU(h:b<=F.length):bt (F++y) b=bt F b:=by
 unfold bt;rw[UW h]
theorem zI(L M:List Tk)(h:∃u∈L,nW u.s=true):lJ (L++M)=lJ L:=by
 induction L with
 | nil=>obtain⟨u,b,-⟩:=h;cases b
 | cons a L e =>
  rw[Vy,lJ,lJ];split
  ·rfl
  ·next d =>
   rw[e];obtain⟨u,b,c⟩:=h;rcases Ub.1 b with rfl | b
   ·exact absurd c d
   ·exact⟨u,b,c⟩
theorem Ls(c:dV i I):∃u∈i.drop I,nW u.s=true:=by
 obtain⟨e,d,b,a⟩:=c;refine⟨i[e],?_,?_⟩
 ·rw[List.mem_iff_getElem?];exact⟨e-I,by rw[Vz,show I+(e-I)=e by omega,Tn b]⟩
 ·unfold tS at a;rw[To,Tn b]at a;exact a
theorem qy(a:dV o b):bB (o++H) b=bB o b:=by
 have c:b<=o.length:=by obtain⟨e,d,f,-⟩:=a;omega
 unfold bB;rw[UC c,zI _ _ (Ls a)]
theorem Lr(f:dV o b):dV (o++H) b:=by
 obtain⟨e,a,c,d⟩:=f;exact⟨e,a,by rw[Tv];omega,by rw[fY o H e c];exact d⟩
theorem lS(h:∀j,j<I->z6 j=y1 j):(List.range I).any z6=(List.range I).any y1:=by
 rw[UL,Ut,Ut];constructor
 ·rintro ⟨j,a,b⟩;exact⟨j,a,by rw[<-h j (TG.1 a)];exact b⟩
 ·rintro ⟨j,a,b⟩;exact⟨j,a,by rw[h j (TG.1 a)];exact b⟩
theorem xD{l:Xv}{q:Nat->Bool}(h:∀j∈l,z6 j=q j):l.find? z6=l.find? q:=by
 induction l with
 | nil=>rfl
 | cons a l c =>
  rw[WO,WO,h a (by simp),c (fun j b=>h j (by simp[b]))]
section
variable {T U:List Tk} {S M:List Sm} {n:Nat}
theorem xp(c:n<=S.length)(b:∀j,j<n->((aq S j).k.toList==L.toList)=true->dV T (aq S j).h):jG (T++U) (S++M) L l n y0=jG T S L l n y0:=by
 unfold jG;refine lS (fun j a=>?_);unfold oQ;rw[jJ S M j (by omega),sG S M j n c];cases h:((aq S j).k.toList==L.toList)
 ·rfl
 ·rw[qy T U _ (b j a h)]
theorem uU(a:iZ T S n):eM (T++U) (S++M) w n=eM T S w n:=xp _ w _ a.m (by rw[oY.1];exact a.c)
theorem I6(a:iZ T S n):iG (T++U) (S++M) w n=iG T S w n:=xp _ w _ a.m (by rw[oY.2];exact a.v)
theorem z8(h:g.a<T.length):bS (T++U) g=bS T g:=by
 unfold bS;rw[fY T U g.a h]
theorem ua(c:iZ T S n):bC (T++U) (S++M) w n=bC T S w n:=by
 unfold bC
 rw[xD (q:=mP T S w) (fun j b=>by
  have b:=TG.1 b;have:=c.m;unfold mP;rw[jJ S M j (by omega),z8 _ (c.a j b)])]
theorem Ay(a:iZ T S n):jM (T++U) (S++M) w n=jM T S w n:=by
 unfold jM;rw[ua w a,uU w a,xp _ w _ a.m (by rw[oY.2];exact a.v)]
theorem JO(b:iZ T S n)(c:mU T S n):gK (T++U) (S++M) w n=gK T S w n:=by
 unfold gK
 rw[xD (q:=rU T S w n) (fun j a=>by
  have a:=TG.1 a;have:=b.m;unfold rU;rw[jJ S M j (by omega),sG S M j n b.m];cases h:((aq S j).k.toList == [36,102])
  ·rfl
  ·rw[fY T U _ (c j a h)])]
theorem Kj(a:iZ T S n):j7 (T++U) (S++M) l n y0 m=j7 T S l n y0 m:=by
 unfold j7;rw[Ay l a,ua l a,uU l a,I6 l a]
theorem GA(a:iZ T S n)(b:mU T S n):im (T++U) (S++M) L l n m=im T S L l n m:=by
 unfold im;rw[uU l a,I6 l a,JO l a b]
theorem DY(a:iZ T S n)(b:mU T S n):mI (T++U) (S++M) L l n m=mI T S L l n m:=by
 unfold mI;rw[Kj l _ m a,GA L l m a b]
theorem zT(a:iZ T S n):dE (T++U) (S++M) w n=dE T S w n:=by
 unfold dE;rw[lU S M n a.m,Ay w a]
end
theorem Hz(a:D<=b)(c:b<=o.length):eG (o++H) D b=eG o D b:=by
 unfold eG;rw[UC (by omega),UW (by rw[Ux];omega)]
theorem xl(f:o.length<=100000)(i:Nat)(c:i<o.length)(a:∀j,j<i->aY o (aa o) j=0):aY (o++H) (aa (o++H)) i=aY o (aa o) i:=by
 obtain⟨b,k⟩:=QG o f i c a;obtain⟨M,d,n⟩:=Ax o H;rw[d];generalize aa o=S at *;have g:jE (S++M) i=jE S i:=Ic i S M (fun m l=>by have:=n m l;omega);have p:=Mt S i;unfold aY;rw[g,CG S M _ b.m,fY o H i c];by_cases e:i=ld S (jE S i)
 ·rw[Tr e,Tr e,zT _ b]
 ·rw[Tp e,Tp e,Bv o H _ (by omega)];split
  ·rfl
  ·next q =>
   rw[DY _ _ _ b k,Hz o H _ i (by omega) (by omega)]
theorem sI(b:o.length<=100000)(h:∀j,j<o.length->aY o (aa o) j=0):∀j,j<o.length->aY (o++H) (aa (o++H)) j=0:=fun j a=>by
 rw[xl o H b j a (fun q c=>h q (by omega))];exact h j a
def vU(o:Int)(L:List Sm):Int:=L.foldl (fun o s=>aR o s.k) o
theorem zM(c:Int)(k:Xs):aR (z7+c) k=aR z7 k+c:=by
 unfold aR;split <;> split <;> omega
theorem Dd(L:List Sm):∀o c,vU (o+c) L=vU o L+c:=by
 induction L with
 | nil=>intro o c;rfl
 | cons s L a =>
  intro o c;show vU (aR (o+c) s.k) L=vU (aR o s.k) L+c;rw[zM,a]
theorem Jg(L:List Sm)(s:Sm):∀o,rO o (L++[s])=(rO o L&&decide (0<=vU o (L++[s]))):=by
 induction L with
 | nil =>
  intro o
  show(if aR o s.k<0 then false else rO (aR o s.k) [])=(rO o []&&decide (0<=aR o s.k))
  simp only[rO];by_cases h:aR o s.k<0
  ·rw[Tr h];simp;omega
  ·rw[Tp h];simp;omega
 | cons a L b =>
  intro o;rw[Vy,rO,rO];by_cases h:aR o a.k<0
  ·rw[Tr h,Tr h];rfl
  ·rw[Tp h,Tp h,b];rfl
theorem Fm(c:D<=b):vU 0 ((y.drop D).take (b-D))=bt y b-bt y D:=by
 have e:y.take b=y.take D++(y.drop D).take (b-D):=by
  rw[show b=D+(b-D) by omega,List.take_add];simp
 have a:bt y b=vU (bt y D) ((y.drop D).take (b-D)):=by
  unfold bt vU;rw[e,Vp]
 have:=Dd ((y.drop D).take (b-D)) 0 (bt y D);rw[Int.zero_add]at this;omega
theorem oO(c:D<=b)(d:b<y.length):aO y D (b+1)=(aO y D b&&decide (bt y D<=bt y (b+1))):=by
 have e:(y.drop D).take (b+1-D)=(y.drop D).take (b-D)++[y[b]]:=by
  rw[show b+1-D=(b-D)+1 by omega,Up (by rw[Ux];omega),Wa];congr 3;omega
 have a:=Fm y D (b+1) (by omega);unfold aO;rw[e]at a ⊢;rw[Jg,a];congr 1;rw[decide_eq_decide];omega
theorem CB:aO y b b=true:=by
 unfold aO;rw[Uz,VR,rO]
theorem AS(n:Nat)(g:b<=n)(i:n<=y.length)(h:aO y b n=true):∀m,b<=m->m<=n->bt y b<=bt y m:=by
 induction n with
 | zero =>
  intro m a d;have e:m=b:=by omega
  rw[e];exact Wb _
 | succ n f =>
  intro m a d;by_cases e:b=n+1
  ·have e:m=b:=(by omega);rw[e];exact Wb _
  ·rw[oO y b n (by omega) (by omega),TN,UH]at h;by_cases c:m=n+1
   ·rw[c];exact h.2
   ·exact f (by omega) (by omega) h.1 m a (by omega)
def kN(S:List Sm)(n:Nat):Xv:=(List.range n).filter (fun j=>aO S j n)
theorem i9(h:zt∈kN x I):zt<I:=TG.1 (Uk.1 h).1
theorem EZ(e:b<=y.length):(kN y b).Pairwise (fun a c=>bt y a<=bt y c):=by
 have h:=(V3 (n:=b)).filter (fun j=>aO y j b);refine h.imp_of_mem (fun {a c} ha d hab=>?_);have d:=i9 d;exact AS y a b (by omega) e (Uk.1 ha).2 c (by omega) (by omega)
theorem Gu{f:Nat->Int}(l:Xv)(h:l.Pairwise (fun a b=>f a<=f b)):l=l.filter (fun j=>decide (f j<=z7))++l.filter (fun j=>!decide (f j<=z7)):=by
 induction l with
 | nil=>rfl
 | cons a l c =>
  obtain⟨g,i⟩:=List.pairwise_cons.1 h;have c:=c i;by_cases d:f a<=z7
  ·rw[Vm (by simpa using d),U9 (by simpa using d),Vy,<-c]
  ·have e:l.filter (fun j=>decide (f j<=z7))=[]:=by
    rw[VZ];intro b k;have:=g b k;simp;omega
   rw[U9 (by simpa using d),Vm (by simpa using d),e];rw[e]at c;rw[V4]at c ⊢;rw[<-c]
theorem gn(h:∀j,j<I->z6 j=y1 j):(List.range I).filter z6=(List.range I).filter y1 :=
 Xc (fun j a=>h j (TG.1 a))
theorem iO:bt (y++[g]) (y.length+1)=aR (bt y y.length) g.k:=by
 rw[vS (y++[g]) y.length (by simp),lU y [g] _ (Tq _)];congr 2;simp
theorem sF:kN (y++[g]) (y.length+1)=(kN y y.length).filter (fun j=>decide (bt y j<=aR (bt y y.length) g.k))++(if 0<=aR 0 g.k then [y.length] else []):=by
 unfold kN;rw[UU,UI,WY];congr 1
 ·refine gn (fun j a=>?_);rw[oO (y++[g]) j y.length (by omega) (by simp),sG y [g] j _ (Tq _),lU y [g] j (by omega),iO,Xi]
 ·have e:aO (y++[g]) y.length (y.length+1)=decide (0<=aR 0 g.k):=by
   rw[oO (y++[g]) y.length y.length (Tq _) (by simp),CB,lU y [g] _ (Tq _),iO,U6,decide_eq_decide];have:=zM 0 (bt y y.length) g.k;rw[Int.zero_add]at this;omega
  by_cases h:0<=aR 0 g.k
  ·rw[Tr h,Vm (by rw[e];simpa using h)];rfl
  ·rw[Tp h,U9 (by rw[e];simpa using h)];rfl
theorem Jh(a:I<=x.length)(h:zt∈kN x I):bt x zt<=bt x I:=by
 have b:=i9 h;exact AS x zt I (by omega) a (Uk.1 h).2 I (by omega) (Tq _)
structure tD(F:Nat->Xt)(S:List Sm)(L:Xt)(B:Xv):Prop where
 l:L=(kN S S.length).flatMap F
 b:(B.length:Int)=bt S S.length
 o:∀i,i<B.length->B[i]?=some (((kN S S.length).filter (fun j=>decide (bt S j<=(i:Int)))).flatMap F).length
theorem dS{l:Xv}{G:Nat->Xt}(h:∀j∈l,u j=G j):l.flatMap u=l.flatMap G:=by
 induction l with
 | nil=>rfl
 | cons a l c=>rw[Uv,Uv,h a (by simp),c (fun j b=>h j (by simp[b]))]
theorem sN(b:I<=x.length)(c:bt x I<=z4):(kN x I).filter (fun j=>decide (bt x j<=z4))=kN x I :=
 List.filter_eq_self.2 (fun j a=>by have:=Jh b a;simp;omega)
theorem cO:(y++[g]).length=y.length+1:=by simp
theorem qc(b:I<=x.length)(c:Int):(kN x I).filter (fun j=>decide (bt (x++[z5]) j<=c))=(kN x I).filter (fun j=>decide (bt x j<=c)) :=
 Xc (fun j a=>by rw[lU x [z5] j (by have:=i9 a;omega)])
theorem tD.norm(h:tD u x z3 E)(s:Sm)(c:∀o,aR o s.k=o)(d:∀j,j<x.length->C j=u j):tD C (x++[s]) (z3++C x.length) E:=by
 have e:=sF x s;rw[c,c,Tr (Wb _),sN (Tq _) (Wb _)]at e;have f:=h.b;refine⟨?_,?_,fun i g=>?_⟩
 ·rw[cO,e,U4,h.l,dS (fun j a=>d j (i9 a))];simp
 ·rw[cO,iO,c];exact f
 ·rw[cO,e,UI,qc (Tq _),U9 (by rw[lU x [s] _ (Tq _)];simp;omega),WM,TY,dS (fun j a=>d j (i9 (Uk.1 a).1))];exact h.o i g
theorem tD.push(h:tD u x z3 E)(s:Sm)(d:∀o,aR o s.k=o+1)(m:∀j,j<x.length->C j=u j)(g:C x.length=[]):tD C (x++[s]) z3 (E++[z3.length]):=by
 have e:=sF x s;rw[d,d,Tr (by omega),sN (Tq _) (by omega)]at e;have r:=h.b;have f:∀p:Nat->Bool,([x.length].filter p).flatMap C=[]:=fun p=>by
  rw[List.flatMap_eq_nil_iff];intro j c;have:=TI.1 (Uk.1 c).1;rw[this];exact g
 refine⟨?_,?_,fun i q=>?_⟩
 ·rw[cO,e,U4,h.l,dS (fun j c=>m j (i9 c))];simp[g]
 ·rw[cO,iO,d];simp;omega
 ·rw[cO,e,UI,qc (Tq _),U4,f,TY,dS (fun j c=>m j (i9 (Uk.1 c).1))];simp only[List.length_append,List.length_cons,List.length_nil]at q;by_cases a:i<E.length
  ·rw[TQ a];exact h.o i a
  ·have n:i=E.length:=(by omega);rw[n,TJ (Tq _),Uz,sN (Tq _) (by omega),<-h.l];rfl
theorem tD.pop(h:tD u x z3 (E++[I]))(s:Sm)(d:∀o,aR o s.k=o-1)(g:∀j,j<x.length->C j=u j):tD C (x++[s]) (z3.take I) E:=by
 have e:=sF x s;rw[d,d,Tp (by omega),TY]at e;have r:=h.b;simp only[List.length_append,List.length_cons,List.length_nil]at r;have t:bt x x.length-1=E.length:=by omega
 rw[t]at e;have c:=h.o E.length (by simp);rw[TJ (Tq _),Uz]at c;have c:I=(((kN x x.length).filter (fun j=>decide (bt x j<=E.length))).flatMap u).length:=by simpa using c
 refine⟨?_,?_,fun i v=>?_⟩
 ·rw[cO,e,dS (G:=u) (fun j a=>g j (i9 (Uk.1 a).1))];have n:=h.l;rw[Gu (f:=bt x) (E.length:Int) (kN x x.length) (EZ x _ (Tq _)),U4]at n;rw[n,c,UW (Tq _),UO]
 ·rw[cO,iO,d];omega
 ·rw[cO,e,WY];have p:(kN x x.length).filter (fun j=>decide (bt (x++[s]) j<=(i:Int))&&decide (bt x j<=E.length))=(kN x x.length).filter (fun j=>decide (bt x j<=(i:Int))) :=
   Xc (fun j a=>by
    rw[lU x [s] j (by have:=i9 a;omega)];by_cases m:bt x j<=(i:Int)
    ·have q:bt x j<=E.length:=(by omega);simp[m,q]
    ·simp[m])
  rw[p,dS (G:=u) (fun j a=>g j (i9 (Uk.1 a).1))];have:=h.o i (by simp;omega);rw[TQ v]at this;exact this
def EC(T:List Tk)(S:List Sm)(j:Nat):Xt:=if((aq S j).k.toList == [36,118])=true then bB T (aq S j).h else []
def JB(T:List Tk)(S:List Sm)(j:Nat):Xt:=if((aq S j).k.toList == [36,99])=true then bB T (aq S j).h else []
def Ih(T:List Tk)(S:List Sm)(j:Nat):Xt:=if((aq S j).k.toList == [36,102])=true then [tS T ((aq S j).h+1)] else []
def Ni(T:List Tk)(S:List Sm)(j:Nat):Xt:=if((bS T (aq S j)).toList == [])=true then [] else [bS T (aq S j)]
theorem oV(F:Nat->Xt)(l:Xv)(x:Xs):aK (l.flatMap F) x=l.any (fun j=>aK (F j) x):=by
 unfold aK;rw[List.any_flatMap]
theorem ju:aK [] w=false:=rfl
theorem xL(a:Xt)(x:Xs):aK (m++a) x=(aK m x||aK a x):=by
 unfold aK;rw[Xp]
theorem sO:aK [l] w=(l.toList==w.toList):=by simp[aK]
theorem vL(q:Nat->Bool):(z0.filter z1).any q=z0.any (fun j=>z1 j&&q j):=by
 rw[List.any_filter]
theorem I9:iG H y l b=aK ((kN y b).flatMap (EC H y)) l:=by
 rw[oV];unfold kN;rw[vL];unfold iG jG;refine lS (fun j a=>?_);unfold oQ EC;rw[oY.2];cases h:((aq y j).k.toList == [36,118])
 ·rw[Tp (by simp),ju];simp
 ·rw[Tr rfl];simp[Bool.and_comm]
theorem uV:eM H y l b=aK ((List.range b).flatMap (JB H y)) l:=by
 rw[oV];unfold eM jG;refine lS (fun j a=>?_);unfold oQ JB;rw[oY.1];cases h:((aq y j).k.toList == [36,99])
 ·rw[Tp (by simp),ju];simp
 ·rw[Tr rfl];simp
theorem E2:jG H y ⟨#[36,118]⟩ l b false=aK ((List.range b).flatMap (EC H y)) l:=by
 rw[oV];unfold jG;refine lS (fun j a=>?_);unfold oQ EC;rw[oY.2];cases h:((aq y j).k.toList == [36,118])
 ·rw[Tp (by simp),ju];simp
 ·rw[Tr rfl];simp
theorem Pe:(match z0.find? z1 with | some j=>(j:Int) | none=>-1)=-1 ↔ z0.any z1=false:=by
 cases h:z0.find? z1 with
 | none=>simp only[true_iff];rw[V9];rw[UE]at h;exact h
 | some j =>
  have a:=Vh h;have b:=Us h;have c:z0.any z1=true:=Ut.2 ⟨j,b,a⟩;rw[c];simp only[Bool.true_eq_false,iff_false];intro d;have:(0:Int)<=(j:Int):=by omega
  omega
theorem Im:decide (0<=(match z0.find? z1 with | some j=>(j:Int) | none=>-1))=z0.any z1:=by
 cases h:z0.find? z1 with
 | none =>
  have:=(Pe z0 z1).1 (by rw[h]);rw[this];rfl
 | some j =>
  have a:z0.any z1=true:=Ut.2 ⟨j,Us h,Vh h⟩;rw[a];simp
theorem ub:decide (0<=bC H y l b)=aK ((List.range b).flatMap (Ni H y)) l:=by
 rw[oV];unfold bC;refine(Im (List.range b) (mP H y l)).trans ?_;refine lS (fun j a=>?_);unfold mP Ni;cases h:((bS H (aq y j)).toList == [])
 ·rw[Tp (by simp),sO];simp
 ·rw[Tr rfl,ju];simp
theorem JP:decide (0<=gK H y l b)=aK ((kN y b).flatMap (Ih H y)) l:=by
 rw[oV];unfold kN;rw[vL];unfold gK;refine(Im (List.range b) (rU H y l b)).trans ?_;refine lS (fun j a=>?_);unfold rU Ih;cases h:((aq y j).k.toList == [36,102])
 ·rw[Tp (by simp),ju];simp
 ·rw[Tr rfl,sO];simp[Bool.and_comm]
theorem BE(d:H.length<=100000)(b:∀j,j<H.length->aY H (aa H) j=0):iZ H (aa H) (aa H).length/\mU H (aa H) (aa H).length:=by
 have p:=dO H;have f:(aa H).length<=H.length:=pK H H.length;generalize aa H=S at *;have c:=fun j (a:j<S.length)=>EH p j a (fun q _ e=>b q (by have:=(p.s j a).2;omega));refine⟨⟨Tq _,by omega,d,fun j a=>(c j a).1,fun j a=>(c j a).2.1,fun j a=>?_⟩,fun j a=>(c j a).2.2⟩;have:=(p.s j a).1.lt;have:=(p.s j a).2;omega
structure tA(T:List Tk)(S:List Sm)(d:Db):Prop where
 con:d.XB=(List.range S.length).flatMap (JB T S)
 var:∀x,aK d.XC x=aK ((List.range S.length).flatMap (EC T S)) x
 act:tD (EC T S) S d.XI (d.XW.map (·.1))
 typ:tD (Ih T S) S d.XL (d.XW.map (·.2))
def ki(T:List Tk)(S:List Sm):Xt:=(List.range S.length).flatMap (Ni T S)
def fn(l:List UInt8)(k:Int):Prop:=(l=[36,99]/\k=7)∨(l=[36,118]/\k=8)∨(l=[36,100]/\k=1)∨(l=[36,102]/\k=2)∨(l=[36,101]/\k=3)∨(l=[36,97]/\k=4)∨(l=[36,112]/\k=5)
theorem fn.c:fn [36,99] 7:=by simp[fn]
theorem fn.v:fn [36,118] 8:=by simp[fn]
theorem fn.d:fn [36,100] 1:=by simp[fn]
theorem fn.f:fn [36,102] 2:=by simp[fn]
theorem fn.e:fn [36,101] 3:=by simp[fn]
theorem fn.a:fn [36,97] 4:=by simp[fn]
theorem fn.p:fn [36,112] 5:=by simp[fn]
def jz(y:Xs):Bool:=!(y.toList == [36,61])
def uL(T:List Tk)(d:Db):Prop :=
 (fB T=T.length/\d.XU=0/\d.Xz=[]/\d.XD=false/\d.XH=ki T (aa T)) ∨
 (fB T+1=T.length/\d.XU=6/\d.Xz=[]/\d.XD=false/\d.XH=ki T (aa T)++[tS T (fB T)]/\((tS T (fB T)).toList == [])=false/\ij (tS T (fB T)) ⟨#[36]⟩=false) ∨
 ∃(key:Xs) (head:Nat) (B:Xt),eu T (fB T)=(key,head)/\fB T<head/\head<=T.length/\fn key.toList d.XU/\eG T head T.length=B/\d.XD=aK B ⟨#[36,61]⟩/\d.Xz=B.takeWhile jz/\(d.XD=true->d.XU=5/\d.Xz≠[]) /\
  d.XH=ki T (aa T)++(if(aA key||aH key)=true then [tS T (fB T)] else [])/\((aA key||aH key)=true->((tS T (fB T)).toList == [])=false)
theorem uL.none(a:fB i=i.length)(b:N.XU=0)(c:N.Xz=[])(d:N.XD=false)(e:N.XH=ki i (aa i)):uL i N:=TH ⟨a,b,c,d,e⟩
theorem uL.lab(a:fB i+1=i.length)(b:N.XU=6)(c:N.Xz=[])(d:N.XD=false)(e:N.XH=ki i (aa i)++[tS i (fB i)])(f:((tS i (fB i)).toList == [])=false)(g:ij (tS i (fB i)) ⟨#[36]⟩=false):uL i N:=TE (TH ⟨a,b,c,d,e,f,g⟩)
theorem uL.body(c:eu i (fB i)=(l,b))(d:fB i<b)(e:b<=i.length)(f:fn l.toList N.XU)(g:eG i b i.length=m)(j:N.XD=aK m ⟨#[36,61]⟩)(k:N.Xz=m.takeWhile jz)(n:N.XD=true->N.XU=5/\N.Xz≠[])(o:N.XH=ki i (aa i)++(if(aA l||aH l)=true then [tS i (fB i)] else []))(a:(aA l||aH l)=true->((tS i (fB i)).toList == [])=false):uL i N:=TE (TE ⟨l,b,m,c,d,e,f,g,j,k,n,o,a⟩)
theorem tD.congr(h:tD u x z3 E)(c:∀j,j<x.length->C j=u j):tD C x z3 E :=
 ⟨by rw[dS (G:=u) (fun j a=>c j (i9 a))];exact h.l,h.b,fun i d=>by rw[dS (G:=u) (fun j a=>c j (i9 (Uk.1 a).1))];exact h.o i d⟩
section
variable {T U:List Tk} {S M:List Sm}
theorem pU(b:iZ T S S.length)(j:Nat)(a:j<S.length):EC (T++U) (S++M) j=EC T S j:=by
 unfold EC;rw[jJ S M j a];split
 ·next h=>rw[qy T U _ (b.v j a h)]
 ·rfl
theorem wG(b:iZ T S S.length)(j:Nat)(a:j<S.length):JB (T++U) (S++M) j=JB T S j:=by
 unfold JB;rw[jJ S M j a];split
 ·next h=>rw[qy T U _ (b.c j a h)]
 ·rfl
theorem wI(b:mU T S S.length)(j:Nat)(a:j<S.length):Ih (T++U) (S++M) j=Ih T S j:=by
 unfold Ih;rw[jJ S M j a];split
 ·next h=>rw[fY T U _ (b j a h)]
 ·rfl
theorem Iz(c:iZ T S S.length)(j:Nat)(b:j<S.length):Ni (T++U) (S++M) j=Ni T S j:=by
 unfold Ni;rw[jJ S M j b,z8 _ (c.a j b)]
end
theorem pN(h:∀j,j<I->C j=u j):(List.range I).flatMap C=(List.range I).flatMap u:=dS (fun j a=>h j (TG.1 a))
theorem fK(h:∀j,j<I->C j=u j):(List.range (I+1)).flatMap C=(List.range I).flatMap u++C I:=by
 rw[UU,U4,pN h];simp
theorem rB(b:iZ i x x.length):ki (i++A) x=ki i x:=by
 unfold ki;exact pN (fun j a=>by have:=Iz (U:=A) (M:=[]) b j a;rw[TY]at this;exact this)
theorem vj(b:iZ i x x.length):ki (i++A) (x++[g])=ki i x++Ni (i++A) (x++[g]) x.length:=by
 unfold ki;rw[cO];exact fK (fun j a=>Iz b j a)
theorem tA.same(h:tA i x N)(d:iZ i x x.length)(m:mU i x x.length)(e:z2.XB=N.XB)(f:z2.XC=N.XC)(g:z2.XI=N.XI)(k:z2.XL=N.XL)(b:z2.XW=N.XW):tA (i++A) x z2:=by
 have c:∀j,j<x.length->EC (i++A) x j=EC i x j:=fun j a=>by have:=pU (U:=A) (M:=[]) d j a;rw[TY]at this;exact this
 have l:∀j,j<x.length->JB (i++A) x j=JB i x j:=fun j a=>by have:=wG (U:=A) (M:=[]) d j a;rw[TY]at this;exact this
 have n:∀j,j<x.length->Ih (i++A) x j=Ih i x j:=fun j a=>by have:=wI (U:=A) (M:=[]) m j a;rw[TY]at this;exact this
 exact⟨by rw[e,pN l];exact h.con,fun o=>by rw[f,pN c];exact h.var o,by rw[g,b];exact h.act.congr c,by rw[k,b];exact h.typ.congr n⟩
theorem lx:aq (y++[g]) y.length=g:=vA y g
theorem tA.close(h:tA i x N)(c:iZ i x x.length)(n:mU i x x.length)(s:Sm)(e:∀o,aR o s.k=o)(f:z2.XB=N.XB++JB (i++A) (x++[s]) x.length)(g:∀b,aK z2.XC b=(aK N.XC b||aK (EC (i++A) (x++[s]) x.length) b))(l:z2.XI=N.XI++EC (i++A) (x++[s]) x.length)(m:z2.XL=N.XL++Ih (i++A) (x++[s]) x.length)(d:z2.XW=N.XW):tA (i++A) (x++[s]) z2 :=
 ⟨by rw[cO,fK (fun j a=>wG c j a),<-h.con];exact f,fun b=>by rw[cO,fK (fun j a=>pU c j a),xL,<-h.var];exact g b,
  by rw[l,d];exact h.act.norm s e (fun j a=>pU c j a),by rw[m,d];exact h.typ.norm s e (fun j a=>wI n j a)⟩
theorem CJ(g:H.length<=100000)(a:∀j,j<H.length->aY H (aa H) j=0):aY (H++[B]) (aa (H++[B])) H.length =
  if H.length=fB H then dE H (aa H) B.s (aa H).length
  else if H.length<(eu (H++[B]) (fB H)).2 then(if(aA B.s||aH B.s)=true then 0 else 14)
  else mI H (aa H) (eu (H++[B]) (fB H)).1 B.s (aa H).length (eG H (eu (H++[B]) (fB H)).2 H.length):=by
 obtain⟨d,k⟩:=BE H g a;obtain⟨M,f,l⟩:=Ax H [B];have p:=dO H;rw[f,FS];generalize aa H=S at *;have i:jE (S++M) H.length=S.length:=by
  unfold jE;rw[Ic H.length S M l];exact MC _ S S.length (fun q b=>⟨aq S q,IV S q b,(p.s q b).2⟩) (fun s c=>by rw[Un (Tq _)]at c;cases c)
 unfold aY;rw[i,CG S M _ (Tq _),om];by_cases e:H.length=ld S S.length
 ·rw[Tr e,Tr e,zT _ d]
 ·rw[Tp e,Tp e];split
  ·rfl
  ·next m=>rw[DY _ _ _ d k,Hz H [B] _ _ (by omega) (Tq _)]
theorem Es(h:tA i x N)(b:N.XH=ki i x)(a:Xs):jM i x a x.length=eD N a:=by
 unfold jM eD;rw[ub,uV,E2,<-h.con,<-h.var,b,V7];rfl
theorem Lw(h:tA i x N)(b:N.XH=ki i x)(a:Xs):(decide (0<=bC i x a x.length)||(eM i x a x.length||iG i x a x.length))=fe N a:=by
 unfold fe;rw[ub,uV,I9,<-h.con,<-h.act.l,b,V7];rfl
theorem CW(h:tA i x N):bt x x.length=(N.XW.length:Int):=by
 have:=h.act.b;rw[TT]at this;exact this.symm
theorem sK(h:z.toList=r)(o:Int):aR o z=if(r == [36,125])=true then(if(r == [36,123])=true then o+1 else o)-1 else(if(r == [36,123])=true then o+1 else o):=by
 unfold aR;rw[h]
theorem jW{k:Xs}(h:k.toList=r):aA k=((r == [36,97])||(r == [36,112]))/\aH k=((r == [36,102])||(r == [36,101]))/\ce k=((r == [36,46])||(r == [36,123])||(r == [36,125])):=by
 unfold aA aH ce;rw[h];exact⟨rfl,rfl,rfl⟩
theorem Gy(h:z.toList=r):ij z ⟨#[36]⟩=ij ⟨r.toArray⟩ ⟨#[36]⟩:=by
 rw[qI (x:=z) (l:=r) (by rw[h];simp)]
theorem fn.dep(h:fn z.toList z4):(∀o,aR o z=o)/\ij z ⟨#[36]⟩=true/\ce z=false:=by
 generalize hl:z.toList=l at h;have a:=fun o=>sK hl o;have b:=Gy hl;have c:=(jW hl).2.2
 (rcases h with ⟨rfl,rfl⟩ | ⟨rfl,rfl⟩ | ⟨rfl,rfl⟩ | ⟨rfl,rfl⟩ | ⟨rfl,rfl⟩ | ⟨rfl,rfl⟩ | ⟨rfl,rfl⟩) <;> exact⟨fun o=>a o,b.trans (by decide +kernel),c⟩
section
variable {T:List Tk} {t:Tk} {d:Db}
theorem DG(b:fB T=T.length)(a:ij t.s ⟨#[36]⟩=true):eu (T++[t]) (fB T)=(t.s,T.length+1):=by
 unfold eu;rw[b,om,a];simp
theorem oX(a:eu T (fB T)=(z,I))(f:fB T<I)(g:I<=T.length)(d:fn z.toList z4):eu (T++[t]) (fB T)=(z,I):=by
 rw[<-a];by_cases h:fB T+1<T.length
 ·exact Bv T [t] _ h
 ·have e:eu T (fB T)=(tS T (fB T),fB T+1):=by
   unfold eu;rw[Tr (by simp;right;omega)]
  rw[a]at e;have c:z=tS T (fB T):=congrArg Prod.fst e;have b:=d.dep.2.1;rw[c]at b;unfold eu;rw[fY T [t] _ (by omega),b];simp
theorem mb(T:List Tk)(h:Nat):eG T h T.length=(T.drop h).map (·.s):=by
 unfold eG;rw[Vf (by rw[Ux];exact Tq _)]
theorem Ms(t:Tk)(h:Nat)(a:h<=T.length):eG (T++[t]) h (T++[t]).length=eG T h T.length++[t.s]:=by
 rw[mb,mb,UC a];simp
theorem tJ(L:List Tk)(t:Tk)(c:∀u∈L,(u.s.toList == [36,46])=false)(e:(t.s.toList == [36,46])=true):lJ (L++[t])=(L.map (·.s)).takeWhile jz:=by
 induction L with
 | nil=>rw[V4,lJ,Tr (uE e)];rfl
 | cons a L g =>
  have d:=c a (by simp);rw[Vy,lJ,Vn];cases b:(a.s.toList == [36,61])
  ·rw[Tp (by unfold nW;rw[d,b];simp),Vc (by unfold jz;rw[b];rfl),g (fun u f=>c u (by simp[f]))]
  ·rw[Tr (by unfold nW;rw[b];rfl),Vt (by unfold jz;rw[b];simp)]
theorem vp(T:List Tk)(h:Nat)(a:fB T<=h):∀u∈T.drop h,ce u.s=false:=by
 intro u c;obtain⟨q,b,e⟩:=Uy c;rw[Ux]at b;have:=(dO T).n (h+q) (by unfold fB at a;omega) (by omega);rw[Wa]at e;unfold tS at this;rw[To,Tn (by omega)]at this;rw[<-e];exact this
theorem M0(h:aK m ⟨#[36,61]⟩=false):∀y∈m,jz y=true:=by
 intro y a;unfold aK at h;rw[V9]at h;have:=h y a;have e:(⟨#[36,61]⟩:Xs).toList=[36,61]:=by decide +kernel
 rw[e]at this;unfold jz;simpa using this
theorem LH(B:Xt)(h:∀y∈B,jz y=true):B.takeWhile jz=B:=by
 induction B with
 | nil=>rfl
 | cons a B c=>rw[Vc (h a (by simp)),c (fun y b=>h y (by simp[b]))]
theorem tZ(h:aK m ⟨#[36,61]⟩=false):m.takeWhile jz=m:=LH m (M0 m h)
theorem Ok(B:Xt)(y:Xs)(h:aK B ⟨#[36,61]⟩=true):(B++[y]).takeWhile jz=B.takeWhile jz:=by
 have e:(⟨#[36,61]⟩:Xs).toList=[36,61]:=by decide +kernel
 induction B with
 | nil=>cases h
 | cons a B d =>
  rw[Vy];cases b:(a.toList == [36,61])
  ·have c:aK B ⟨#[36,61]⟩=true:=by
    unfold aK at h ⊢;rw[VP,e,b,UN]at h;rw[e];exact h
   rw[Vc (by unfold jz;rw[b];rfl),Vc (by unfold jz;rw[b];rfl),d c]
  ·rw[Vt (by unfold jz;rw[b];simp),Vt (by unfold jz;rw[b];simp)]
end
theorem cI{m:List UInt8}(h:(z.toList==r)=true):(z.toList==m)=(r==m):=by
 have:z.toList=r:=by simpa using h
 rw[this]
theorem du(h:(z.toList==r)=true):z.toList=r:=by simpa using h
section
variable {T:List Tk} {t:Tk} {d:Db}
theorem nB(d:fB T=T.length)(c:ce t.s=true):aa (T++[t])=aa T++[⟨fB T,T.length+1,T.length+1,t.s⟩]/\fB (T++[t])=(T++[t]).length:=by
 obtain⟨a,b⟩:=nV T t;rw[Tr c,DG d (lz c).1]at a;rw[Tr c]at b;exact⟨a,by rw[b];simp⟩
theorem lX(c:ce t.s=false):aa (T++[t])=aa T/\fB (T++[t])=fB T:=by
 obtain⟨a,b⟩:=nV T t;rw[Tp (by rw[c];simp)]at a b;exact⟨a,b⟩
theorem QL{S:List Sm}{s:Sm}{U:List Tk}(a:(s.k.toList == [36,118])=false)(b:(s.k.toList == [36,99])=false)(c:(s.k.toList == [36,102])=false):EC U (S++[s]) S.length=[]/\JB U (S++[s]) S.length=[]/\Ih U (S++[s]) S.length=[]:=by
 unfold EC JB Ih;rw[lx,a,b,c];exact⟨rfl,rfl,rfl⟩
theorem Fw{S:List Sm}{s:Sm}{U:List Tk}(h:(aA s.k||aH s.k)=false):Ni U (S++[s]) S.length=[]:=by
 have e:bS U s=⟨#[]⟩:=by unfold bS;rw[h,Tp (by simp)]
 unfold Ni;rw[lx,e,Tr pL]
theorem Pt(h:(aA z5.k||aH z5.k)=true)(b:((tS i z5.a).toList == [])=false):Ni i (x++[z5]) x.length=[tS i z5.a]:=by
 have e:bS i z5=tS i z5.a:=by unfold bS;rw[h,Tr rfl]
 unfold Ni;rw[lx,e,Tp (by rw[b];simp)]
theorem Gx(w:iZ T (aa T) (aa T).length)(R:mU T (aa T) (aa T).length)(I:tA T (aa T) d)(M:fB T=T.length)(hk:d.XU=0)(F:d.Xz=[])(B:d.XD=false)(O:d.XH=ki T (aa T))(hx:(t.s.toList == [])=false) :
  dE T (aa T) t.s (aa T).length=(ay d t.s).1/\((ay d t.s).1=0->tA (T++[t]) (aa (T++[t])) (ay d t.s).2/\uL (T++[t]) (ay d t.s).2):=by
 have E:=CW I;have ac:=Es I O t.s
 -- a keyword of a statement without a XV
 have G:∀{n:Int} {Q:Db},fn t.s.toList n->(aA t.s||aH t.s)=false->Q={ d with XU:=n }->tA (T++[t]) (aa (T++[t])) Q/\uL (T++[t]) Q:=fun {n Q} u H e=>by
  obtain⟨y,D⟩:=lX (T:=T) (t:=t) u.dep.2.2;have N:eu (T++[t]) (fB (T++[t]))=(t.s,T.length+1):=by rw[D];exact DG M u.dep.2.1
  have hB:eG (T++[t]) (T.length+1) (T++[t]).length=[]:=by rw[mb];simp
  subst e;refine⟨by rw[y];exact I.same w R rfl rfl rfl rfl rfl,uL.body t.s (T.length+1) [] N (by rw[D];omega) (by simp) u hB (by rw[ju];exact B) F (fun h=>by rw[B]at h;cases h) ?_ (fun h=>by rw[H]at h;cases h)⟩;rw[y,H,Tp (by simp),TY,rB w];exact O
 cases b:(t.s.toList == [36,123])
 ·cases f:(t.s.toList == [36,125])
  ·cases l:(t.s.toList == [36,99])
   ·cases g:(t.s.toList == [36,118])
    ·cases m:(t.s.toList == [36,100])
     ·cases z:(aA t.s||aH t.s)
      ·have h7:(t.s.toList == [36,102])=false/\(t.s.toList == [36,101])=false/\(t.s.toList == [36,97])=false/\(t.s.toList == [36,112])=false:=by
        unfold aA aH at z;simp only[Bool.or_eq_false_iff]at z;exact⟨z.2.1,z.2.2,z.1.1,z.1.2⟩
       obtain⟨g1,g2,g3,g4⟩:=h7;have k:ay d t.s=bV d t.s:=by
        unfold ay;rw[b,f,l,g,m,g1,g2,g3,g4];simp
       have i:dE T (aa T) t.s (aa T).length=if ij t.s ⟨#[36]⟩=true then 8 else if iz t.s=false then 12 else if eD d t.s=true then 13 else 0:=by
        unfold dE;rw[b,f,l,g,m,z,ac];simp
       rw[k,i,iQ];unfold bV;cases k1:dD t.s
       ·cases k2:iz t.s
        ·exact⟨rfl,fun h=>by simp at h⟩
        ·cases k3:eD d t.s
         ·refine⟨rfl,fun _=>?_⟩;have C:ce t.s=false:=by
           cases K:ce t.s
           ·rfl
           ·have:=(lz K).1;rw[iQ,k1]at this;cases this
          obtain⟨y,D⟩:=lX (T:=T) (t:=t) C;have X:tS (T++[t]) (fB (T++[t]))=t.s:=(by rw[D,M,om]);simp only[Bool.false_eq_true,if_false];exact⟨by rw[y];exact I.same w R rfl rfl rfl rfl rfl,uL.lab (by rw[D,M];simp) rfl F B (by rw[X,y,rB w,<-O];rfl) (by rw[X];exact hx) (by rw[X,iQ];exact k1)⟩
         ·exact⟨rfl,fun h=>by simp at h⟩
       ·exact⟨rfl,fun h=>by simp at h⟩
      ·have k:ay d t.s=(11,d):=by
        unfold ay;rw[b,f,l,g,m];unfold aA aH at z;rw[Tp (by simp),Tp (by simp),Tp (by simp),Tp (by simp),Tp (by simp),Tr];simp only[Bool.or_eq_true]at z;rcases z with (h | h) | (h | h)
        ·exact TE (TE (TH h))
        ·exact TE (TE (TE h))
        ·exact TH h
        ·exact TE (TH h)
       have i:dE T (aa T) t.s (aa T).length=11:=by
        unfold dE;rw[b,f,l,g,m,z];simp
       rw[k,i];exact⟨rfl,fun h=>by cases h⟩
     ·have u:=fn.d;rw[<-du m]at u;have k:ay d t.s=(0,{ d with XU:=1 }):=by
       unfold ay;rw[b,f,l,g,m];simp
      have i:dE T (aa T) t.s (aa T).length=0:=by
       unfold dE;rw[m];simp
      rw[k,i];exact⟨rfl,fun _=>G u (by rw[(jW (du m)).1,(jW (du m)).2.1];decide) rfl⟩
    ·have u:=fn.v;rw[<-du g]at u;have k:ay d t.s=(0,{ d with XU:=8 }):=by
      unfold ay;rw[b,f,l,g];simp
     have i:dE T (aa T) t.s (aa T).length=0:=by
      unfold dE;rw[g];simp
     rw[k,i];exact⟨rfl,fun _=>G u (by rw[(jW (du g)).1,(jW (du g)).2.1];decide) rfl⟩
   ·have u:=fn.c;rw[<-du l]at u;have g:(t.s.toList == [36,118])=false:=by rw[cI l];decide
    have m:(t.s.toList == [36,100])=false:=(by rw[cI l];decide);by_cases A:0<d.XW.length
    ·have k:ay d t.s=(10,d):=by
      unfold ay;rw[b,f,l];simp[A]
     have i:dE T (aa T) t.s (aa T).length=10:=by
      unfold dE;rw[b,f,l,g,m,E,UR (show(0:Int)<(d.XW.length:Int) by omega)];simp
     rw[k,i];exact⟨rfl,fun h=>by cases h⟩
    ·have k:ay d t.s=(0,{ d with XU:=7 }):=by
      unfold ay;rw[b,f,l,Tp (by simp),Tp (by simp),Tr rfl,Tp A]
     have i:dE T (aa T) t.s (aa T).length=0:=by
      unfold dE;rw[b,f,l,g,m,E,UY (show ¬(0:Int)<(d.XW.length:Int) by omega)];simp
     rw[k,i];exact⟨rfl,fun _=>G u (by rw[(jW (du l)).1,(jW (du l)).2.1];decide) rfl⟩
  ·have g:(t.s.toList == [36,118])=false:=(by rw[cI f];decide);have m:(t.s.toList == [36,100])=false:=(by rw[cI f];decide);have K:ce t.s=true:=(by rw[(jW (du f)).2.2];decide);have k:ay d t.s=(match d.XW.getLast? with | none=>(9,d) | some p=>(0,cU d p)):=by
    unfold ay;rw[b,f,Tp (by simp),Tr rfl];rfl
   cases A:d.XW.getLast? with
   | none =>
    have J:d.XW.length=0:=(by rw[List.getLast?_eq_none_iff]at A;rw[A];rfl);have i:dE T (aa T) t.s (aa T).length=9:=by
     unfold dE;rw[b,f,g,m,E,J];simp
    rw[k,i,A];exact⟨rfl,fun h=>by cases h⟩
   | some q =>
    have C:d.XW≠[]:=fun e=>by rw[e]at A;cases A
    have Y:d.XW=d.XW.dropLast++[q]:=by
     have:=V5 C;rw[VC C]at A;cases A
     exact this.symm
    have J:0<d.XW.length:=Wi.2 C;have i:dE T (aa T) t.s (aa T).length=0:=by
     unfold dE;rw[b,f,g,m,E,show((d.XW.length:Int)==0)=false by simp;omega];simp
    rw[k,i,A];refine⟨rfl,fun _=>?_⟩;obtain⟨y,D⟩:=nB (T:=T) (t:=t) M K;have P:∀o,aR o t.s=o-1:=fun o=>by rw[sK (du f)];rfl
    obtain⟨V,n2,n3⟩:=QL (S:=aa T) (s:=⟨fB T,T.length+1,T.length+1,t.s⟩) (U:=T++[t]) g (by show(t.s.toList==_)=false;rw[cI f];decide) (by show(t.s.toList==_)=false;rw[cI f];decide);have Z:=Fw (S:=aa T) (s:=⟨fB T,T.length+1,T.length+1,t.s⟩) (U:=T++[t]) (by show(aA t.s||aH t.s)=false;rw[(jW (du f)).1,(jW (du f)).2.1];decide);have H:=I.act;have hy:=I.typ;rw[Y,Uh]at H hy;have L:(cU d q).XB=d.XB/\(cU d q).XC=d.XC/\(cU d q).XI=d.XI.take q.1/\(cU d q).XL=d.XL.take q.2/\(cU d q).XW=d.XW.dropLast/\(cU d q).XU=d.XU/\(cU d q).Xz=d.Xz/\(cU d q).XD=d.XD/\(cU d q).XH=d.XH:=by
     unfold cU dx;split <;> exact⟨rfl,rfl,rfl,rfl,rfl,rfl,rfl,rfl,rfl⟩
    obtain⟨d1,d2,d3,d4,d5,d6,d7,d8,d9⟩:=L;simp only;rw[y];refine⟨⟨?_,fun x=>?_,?_,?_⟩,uL.none D (by rw[d6];exact hk) (by rw[d7];exact F) (by rw[d8];exact B) ?_⟩
    ·rw[d1,cO,fK (fun j r=>wG w j r),n2,TY];exact I.con
    ·rw[d2,cO,fK (fun j r=>pU w j r),V,TY];exact I.var x
    ·rw[d3,d5];exact H.pop ⟨fB T,T.length+1,T.length+1,t.s⟩ P (fun j r=>pU w j r)
    ·rw[d4,d5];exact hy.pop ⟨fB T,T.length+1,T.length+1,t.s⟩ P (fun j r=>wI R j r)
    ·rw[d9,y,vj _ w,Z,TY];exact O
 ·have g:(t.s.toList == [36,118])=false:=by rw[cI b];decide
  have K:ce t.s=true:=by rw[(jW (du b)).2.2];decide
  have k:ay d t.s=(0,{ d with XW:=d.XW++[(d.XI.length,d.XL.length)],rbl:=d.rbl++[d.XQ.length] }):=by
   unfold ay;rw[b,Tr rfl]
  have i:dE T (aa T) t.s (aa T).length=0:=by
   unfold dE;rw[b];simp
  rw[k,i];refine⟨rfl,fun _=>?_⟩;obtain⟨y,D⟩:=nB (T:=T) (t:=t) M K;have P:∀o,aR o t.s=o+1:=fun o=>by rw[sK (du b)];rfl
  obtain⟨V,n2,n3⟩:=QL (S:=aa T) (s:=⟨fB T,T.length+1,T.length+1,t.s⟩) (U:=T++[t]) g (by show(t.s.toList==_)=false;rw[cI b];decide) (by show(t.s.toList==_)=false;rw[cI b];decide);have Z:=Fw (S:=aa T) (s:=⟨fB T,T.length+1,T.length+1,t.s⟩) (U:=T++[t]) (by show(aA t.s||aH t.s)=false;rw[(jW (du b)).1,(jW (du b)).2.1];decide);simp only;rw[y];refine⟨⟨?_,fun x=>?_,?_,?_⟩,uL.none D hk F B ?_⟩
  ·rw[cO,fK (fun j r=>wG w j r),n2,TY];exact I.con
  ·rw[cO,fK (fun j r=>pU w j r),V,TY];exact I.var x
  ·simp only[List.map_append,List.map_cons,List.map_nil];exact I.act.push ⟨fB T,T.length+1,T.length+1,t.s⟩ P (fun j r=>pU w j r) V
  ·simp only[List.map_append,List.map_cons,List.map_nil];exact I.typ.push ⟨fB T,T.length+1,T.length+1,t.s⟩ P (fun j r=>wI R j r) n3
  ·rw[y,vj _ w,Z,TY];exact O
theorem N9(z:iZ T (aa T) (aa T).length)(A:mU T (aa T) (aa T).length)(I:tA T (aa T) d)(y:fB T+1=T.length)(u:d.Xz=[])(j:d.XD=false)(D:d.XH=ki T (aa T)++[tS T (fB T)])(B:((tS T (fB T)).toList == [])=false)(r:ij (tS T (fB T)) ⟨#[36]⟩=false) :
  eu (T++[t]) (fB T)=(t.s,T.length+1)/\(if(aA t.s||aH t.s)=true then(0:Int) else 14)=(aJ d t.s).1/\((aJ d t.s).1=0->tA (T++[t]) (aa (T++[t])) (aJ d t.s).2/\uL (T++[t]) (aJ d t.s).2):=by
 have i:eu (T++[t]) (fB T)=(t.s,T.length+1):=by
  unfold eu;rw[fY T [t] _ (by omega),r,Tp (by simp;omega),y,om,<-y]
 have g:∀{n:Int},fn t.s.toList n->(aA t.s||aH t.s)=true->tA (T++[t]) (aa (T++[t])) { d with XU:=n }/\uL (T++[t]) { d with XU:=n }:=fun {n} c b=>by
  obtain⟨w,k⟩:=lX (T:=T) (t:=t) c.dep.2.2;have C:eG (T++[t]) (T.length+1) (T++[t]).length=[]:=by rw[mb];simp
  have x:tS (T++[t]) (fB (T++[t]))=tS T (fB T):=by rw[k,fY T [t] _ (by omega)]
  refine⟨by rw[w];exact I.same z A rfl rfl rfl rfl rfl,uL.body t.s (T.length+1) [] (by rw[k];exact i) (by rw[k];omega) (by simp) c C (by rw[ju];exact j) u (fun h=>by rw[show({ d with XU:=n }:Db).XD=d.XD from rfl,j]at h;cases h) ?_ (fun _=>by rw[x];exact B)⟩;rw[w,b,Tr rfl,rB z,x];exact D
 refine⟨i,?_⟩;unfold aJ;cases l:(t.s.toList == [36,102])
 ·cases m:(t.s.toList == [36,101])
  ·cases o:(t.s.toList == [36,97])
   ·cases q:(t.s.toList == [36,112])
    ·have b:(aA t.s||aH t.s)=false:=(by unfold aA aH;rw[l,m,o,q];rfl);rw[b];exact⟨rfl,fun h=>by simp at h⟩
    ·have b:(aA t.s||aH t.s)=true:=(by unfold aA aH;rw[q];simp);have c:=fn.p;rw[<-du q]at c;rw[b];exact⟨rfl,fun _=>g c b⟩
   ·have b:(aA t.s||aH t.s)=true:=(by unfold aA aH;rw[o];simp);have c:=fn.a;rw[<-du o]at c;rw[b];exact⟨rfl,fun _=>g c b⟩
  ·have b:(aA t.s||aH t.s)=true:=(by unfold aA aH;rw[m];simp);have c:=fn.e;rw[<-du m]at c;rw[b];exact⟨rfl,fun _=>g c b⟩
 ·have b:(aA t.s||aH t.s)=true:=by unfold aA aH;rw[l];simp
  have c:=fn.f;rw[<-du l]at c;rw[b];exact⟨rfl,fun _=>g c b⟩
end
end Go.Proofs.YtnbhnocdhbcbcaaGreat
