import Derived.Test.YtnbhnocdhbcbcaaGreatK05
import Derived.Test.YtnbhnocdhbcbcaaGreatK15
namespace Go.Proofs.YtnbhnocdhbcbcaaGreat
open Go.RowKit Tryz
open Value IntKind Ending
set_option maxHeartbeats 0
variable{z4:Int}{i A:List Tk}{I zt:Nat}{z6 y1:Nat->Bool}{x:List Sm}{u C:Nat->Xt}{z5:Sm}{z3:Xt}{E:Xv}{N z2:Db}{r:List UInt8}{z:Xs}(L:Xs)(o H:List Tk)(F y:List Sm)(D:Nat)(z7:Int)(z0:Xv)(l:Xs)(b:Nat)(y0:Bool)(m:Xt)(w:Xs)(z1:Nat->Bool)(B:Tk)(g:Sm)
def me(nm d:Xs)(i:tB):Tk:=⟨i.text,i.X3,nm,aU d i.pos,bJ d i.pos⟩
def Qx(nm d:Xs):Nat->Nat->List Tk
 | 0,_=>[]
 | f+1,k=>me nm d (bQ d k).1 :: (if aM (bQ d k).1=true then Qx nm d f (bQ d k).2 else [])
def nZ(nm d:Xs)(k:Nat):List Tk:=Qx nm d (d.size-k+1) k
theorem OB(f k:Nat)(a:k<=w.size)(b:w.size-k+1<=f):Qx l w f k=nZ l w k:=by
 unfold nZ
 suffices h:∀f g k,k<=w.size->w.size-k+1<=f->w.size-k+1<=g->Qx l w f k=Qx l w g k from h _ _ _ a b (Tp _)
 clear b a f k;intro f
 induction f with
 | zero=>intro g k _ h;omega
 | succ f e =>
  intro g k a b i;cases g with
  | zero=>omega
  | succ g =>
   rw[Qx,Qx];split
   ·next h =>
    have c:=ik w k a;have d:=c.2.2 h;rw[e g _ c.2.1 (by omega) (by omega)]
   ·rfl
theorem l8(c:b<=l.size)(h:aM (bQ l b).1=true):nZ L l b=me L l (bQ l b).1 :: nZ L l (bQ l b).2:=by
 have a:=ik l b c;have d:=a.2.2 h
 conv=>lhs;unfold nZ
 rw[Qx,Tq h,OB L l _ _ a.2.1 (by omega)]
theorem kL(h:aM (bQ l b).1=false):nZ L l b=[me L l (bQ l b).1]:=by
 unfold nZ;rw[Qx,To (by simp[h])]
theorem Gj(h:b<l.size)(a:dm (aI l b)=true):bQ l b=bQ l (b+1):=by
 unfold bQ;rw[IS l b h a]
theorem wh(h:b<l.size)(c:dm (aI l b)=true):nZ L l b=nZ L l (b+1):=by
 have e:=Gj l b h c;cases a:aM (bQ l b).1
 ·rw[kL L l b a,kL L l (b+1) (by rw[<-e];exact a),e]
 ·rw[l8 L l b (by omega) a,l8 L l (b+1) (by omega) (by rw[<-e];exact a),e]
theorem EI(n:Nat):∀a,(∀j,a<=j->j<a+n->j<w.size/\dm (aI w j)=false/\fU (aI w j)=true)->de w a=de w (a+n):=by
 induction n with
 | zero=>intro a _;rfl
 | succ n c =>
  intro a h;have b:=h a (by omega) (by omega);rw[Ja w a b.1 b.2.1 b.2.2,c (a+1) (fun j d e=>h j (by omega) (by omega))];congr 1;omega
theorem E2(h:rQ z4=false)(a:dm z4=false):fU z4=true:=by
 unfold rQ at h;rw[a]at h;simpa using h
theorem Ed(a:D<b)(i:b<=L.size)(c:∀j,D<=j->j<b->dm (aI L j)=false/\fU (aI L j)=true)(f:b<L.size->dm (aI L b)=true):bQ L D=(⟨L.extract D b,0,false,D⟩,b):=by
 have d:=EI L (b-D) D (fun j e g=>⟨by omega,c j e (by omega)⟩);rw[show D+(b-D)=b by omega]at d;refine An L D D b (uB L D (fun h=>?_)).symm d.symm (fun h=>?_) a
 ·rw[(c D (Tp _) a).1]at h;simp at h
 ·rw[f h.1]at h;simp at h
theorem pn(i:Nat):∀j,dI w i<=j->j<i->dm (aI w j)=false:=by
 induction i with
 | zero=>intro j _ h;omega
 | succ i c =>
  intro j a d;rw[dI]at a;split at a
  ·omega
  ·next b =>
   by_cases e:j=i
   ·rw[e];simpa using b
   ·exact c j a (by omega)
theorem yZ(i:Nat)(k:i<=w.size)(f:∀j,j<i->rQ (aI w j)=false):nZ l w 0=jM l w i++nZ l w (dI w i):=by
 induction i with
 | zero=>rfl
 | succ i b =>
  have b:=b (by omega) (fun j m=>f j (by omega));rw[jM,dI];cases a:dm (aI w i)
  ·rw[To (by simp),To (by simp)];exact b
  ·rw[Tq rfl,Tq rfl];have n:=po w i;unfold jN;split
   ·next e =>
    rw[b,e,wh l w i (by omega) a]
   ·next e =>
    have g:=Ed w (dI w i) i (by omega) (by omega) (fun j c d=>⟨pn w i j c d,E2 (f j (by omega)) (pn w i j c d)⟩) (fun _=>a);rw[b,l8 l w (dI w i) (by omega) (by rw[g];rfl),g,<-wh l w i (by omega) a];simp[me,m9]
theorem GY:iW l w=nZ l w 0:=by
 unfold iW;cases d:kc w with
 | some i =>
  unfold kc at d;rw[US]at d;obtain⟨b,c,r⟩:=d;have c:=TF.1 c;have f:∀j,j<i->rQ (aI w j)=false:=fun j m=>by simpa using r j m
  have p:=po w i;have g:∀j,dI w i<=j->j<dI w i+(i-dI w i)->j<w.size/\dm (aI w j)=false/\fU (aI w j)=true:=fun j b c=>⟨by omega,pn w i j b (by omega),E2 (f j (by omega)) (pn w i j b (by omega))⟩
  have n:fU (aI w i)=false/\dm (aI w i)=false:=by
   unfold rQ at b;simpa using b
  have q:=EI w (i-dI w i) (dI w i) g;rw[show dI w i+(i-dI w i)=i by omega]at q
  have o:dI w i=skip w (dI w i):=(uB w _ (fun h=>by
   by_cases e:dI w i=i
   ·rw[e,n.2]at h;simp at h
   ·rw[(g (dI w i) (Tp _) (by omega)).2.1]at h;simp at h)).symm
  have k:=Eb w (dI w i) (dI w i) i o q.symm c n.2 n.1;simp only;rw[yZ l w i (by omega) f,kL l w (dI w i) (by rw[k];rfl),k];simp[me,m9]
 | none =>
  have f:∀j,j<w.size->rQ (aI w j)=false:=fun j m=>by
   unfold kc at d;rw[UD]at d;simpa using d j (TF.2 m)
  have p:=po w w.size;have a:bQ w w.size=(⟨⟨#[]⟩,0,true,w.size⟩,w.size):=Ec w w.size w.size w.size (uB w _ (fun h=>by omega)).symm rfl (fun h=>by omega) (Tp _);simp only;rw[yZ l w w.size (Tp _) f];unfold jN;split
  ·next e =>
   rw[e,kL l w w.size (by rw[a];rfl),a];simp[me,m9]
  ·next e =>
   have k:=Ed w (dI w w.size) w.size (by omega) (Tp _) (fun j b c=>⟨pn w _ j b c,E2 (f j c) (pn w _ j b c)⟩) (fun h=>by omega);rw[l8 l w (dI w w.size) p (by rw[k];rfl),k,kL l w w.size (by rw[a];rfl),a];simp[me,m9]
def Qo(nm d:Xs):Nat->Nat->List Tk
 | 0,_=>[]
 | f+1,k=>me nm d (aC d k).1 :: (if aM (aC d k).1=true then Qo nm d f (aC d k).2 else [])
def mM(nm d:Xs)(k:Nat):List Tk:=Qo nm d (d.size-k+1) k
theorem Of(f k:Nat)(a:k<=w.size)(b:w.size-k+1<=f):Qo l w f k=mM l w k:=by
 unfold mM
 suffices h:∀f g k,k<=w.size->w.size-k+1<=f->w.size-k+1<=g->Qo l w f k=Qo l w g k from h _ _ _ a b (Tp _)
 clear b a f k;intro f
 induction f with
 | zero=>intro g k _ h;omega
 | succ f e =>
  intro g k a b i;cases g with
  | zero=>omega
  | succ g =>
   rw[Qo,Qo];split
   ·next h =>
    have c:=go w k a;have d:=c.2.2 h;rw[e g _ c.2.1 (by omega) (by omega)]
   ·rfl
theorem kJ(c:b<=l.size)(h:aM (aC l b).1=true):mM L l b=me L l (aC l b).1 :: mM L l (aC l b).2:=by
 have a:=go l b c;have d:=a.2.2 h
 conv=>lhs;unfold mM
 rw[Qo,Tq h,Of L l _ _ a.2.1 (by omega)]
theorem kI(h:aM (aC l b).1=false):mM L l b=[me L l (aC l b).1]:=by
 unfold mM;rw[Qo,To (by simp[h])]
theorem GB(j:Nat)(d:b<=l.size)(c:j<=l.size)(h:aC l b=aC l j):mM L l b=mM L l j:=by
 cases a:aM (aC l b).1
 ·rw[kI L l b a,kI L l j (by rw[<-h];exact a),h]
 ·rw[kJ L l b d a,kJ L l j c (by rw[<-h];exact a),h]
theorem IX(c:UInt8):ii w ⟨#[36,c]⟩=(List.range w.size).any (fun i=>decide (1<=i)&&(aI w (i-1)==36)&&(aI w i==(c.toNat:Int))):=by
 have d:(⟨#[36,c]⟩:Xs).size=2:=rfl;have b:∀i,i+2<=w.size->(tn w ⟨#[36,c]⟩ i=((aI w i==36)&&(aI w (i+1)==(c.toNat:Int)))):=fun i a=>by
  have e:(w.extract i (i+2)).toList=[w[i]'(by omega),w[i+1]'(by omega)]:=by
   apply WB
   ·rw[Un];simp;omega
   ·intro n m k;simp only[List.length_cons,List.length_nil]at k;have l:n=0∨n=1:=by omega
    simp only[ByteArray.toList_eq,ByteArray.data_extract,Array.getElem_toList,Array.getElem_extract];rcases l with rfl | rfl <;> rfl
  unfold tn;rw[d,e,bY w i (by omega),bY w (i+1) (by omega)];have j:(⟨#[36,c]⟩:Xs).toList=[36,c]:=by rw[Un]
  rw[j];have f:∀x:UInt8,((x.toNat:Int)==36)=(x==36):=fun x=>by
   rw[UK];simp only[beq_iff_eq];constructor
   ·intro h;exact UInt8.toNat_inj.1 (by rw[show x.toNat=36 by omega];rfl)
   ·rintro rfl;rfl
  have g:∀x:UInt8,((x.toNat:Int)==(c.toNat:Int))=(x==c):=fun x=>by
   rw[UK];simp only[beq_iff_eq];constructor
   ·intro h;exact UInt8.toNat_inj.1 (by omega)
   ·rintro rfl;rfl
  rw[f,g];simp[Bool.beq_eq_decide_eq,Bool.decide_and]
 unfold ii;rw[d,UK,Us,Us];constructor
 ·rintro ⟨i,a,h⟩;have a:=TF.1 a;rw[TM,UG]at h;rw[b i h.1]at h;exact⟨i+1,TF.2 (by omega),by rw[UL,TM,TM,UG];rw[TM]at h;exact⟨⟨by omega,h.2.1⟩,h.2.2⟩⟩
 ·rintro ⟨i,a,h⟩;have a:=TF.1 a;rw[TM,TM,UG]at h;refine⟨i-1,TF.2 (by omega),?_⟩;rw[TM,UG,b (i-1) (by omega),TM,show i-1+1=i by omega];exact⟨by omega,h.1.2,h.2⟩
theorem vN:lg w=(ii w ⟨#[36,40]⟩||ii w ⟨#[36,41]⟩):=by
 rw[IX,IX,UK,Uk];unfold lg;simp only[List.any_eq_true,Bool.and_eq_true,Bool.or_eq_true];constructor
 ·rintro ⟨i,c,b,a | a⟩
  ·exact TG ⟨i,c,b,a⟩
  ·exact TA ⟨i,c,b,a⟩
 ·rintro (⟨i,c,b,a⟩ | ⟨i,c,b,a⟩)
  ·exact⟨i,c,b,TG a⟩
  ·exact⟨i,c,b,TA a⟩
theorem iO:ii w ⟨#[36]⟩=dC w:=by
 have b:(⟨#[36]⟩:Xs).size=1:=rfl;have a:∀i,i+1<=w.size->(tn w ⟨#[36]⟩ i=(aI w i==36)):=fun i c=>by
  have e:(w.extract i (i+1)).toList=[w[i]'(by omega)]:=by
   apply WB
   ·rw[Un];simp;omega
   ·intro n j f;simp only[List.length_cons,List.length_nil]at f;have g:n=0:=by omega
    simp only[ByteArray.toList_eq,ByteArray.data_extract,Array.getElem_toList,Array.getElem_extract];subst g;rfl
  unfold tn;rw[b,e,bY w i (by omega)];have d:(⟨#[36]⟩:Xs).toList=[36]:=by rw[Un]
  rw[d,UK];simp only[beq_iff_eq,List.cons.injEq,and_true];constructor
  ·intro h;rw[h];rfl
  ·intro h;exact UInt8.toNat_inj.1 (by rw[show(w[i]'(by omega)).toNat=36 by omega];rfl)
 unfold ii dC;rw[b,UK,Us,Us];constructor
 ·rintro ⟨i,c,h⟩;rw[TM,UG]at h;rw[a i h.1]at h;exact⟨i,TF.2 (by omega),h.2⟩
 ·rintro ⟨i,c,h⟩;have c:=TF.1 c;exact⟨i,TF.2 (by omega),by rw[TM,UG,a i (by omega)];exact⟨by omega,h⟩⟩
theorem uy(c:b<=l.size):(aM (bQ l b).1=true->((bQ l b).1.text.toList == [])=false/\(bQ l b).1.X3=0)/\(aM (bQ l b).1=false->(bQ l b).1.text=⟨#[]⟩/\((bQ l b).1.XX=true->(bQ l b).1.X3=0)):=by
 have a:=BY l b c;have d:=tu l (skip l b) a.2;unfold bQ;simp only;split
 ·exact⟨fun h=>by simp[aM]at h,fun _=>⟨rfl,fun h=>by cases h⟩⟩
 ·split
  ·exact⟨fun h=>by simp[aM]at h,fun _=>⟨rfl,fun _=>rfl⟩⟩
  ·next f g =>
   refine⟨fun _=>⟨?_,rfl⟩,fun h=>by simp[aM]at h⟩;have i:(l.extract (skip l b) (de l (skip l b))).size=de l (skip l b)-skip l b:=by
    rw[VX];omega
   cases e:((l.extract (skip l b) (de l (skip l b))).toList == [])
   ·rfl
   ·have e:(l.extract (skip l b) (de l (skip l b))).toList=[]:=(by simpa using e);have:=congrArg List.length e;rw[Un]at this;have j:de l (skip l b)-skip l b=0∨l.size-skip l b=0:=(by simpa using this);omega
theorem Mm(f:Nat):∀k,k<=w.size->w.size-k+1<=f ->
  bZ true (nZ l w k)=(if aM (bh w k).1=true then bZ false (nZ l w (bh w k).2) else [me l w (bh w k).1]):=by
 induction f with
 | zero=>intro k _ h;omega
 | succ f o =>
  intro k i r;have j:=ik w k i;obtain⟨p,q⟩:=uy w k i;cases a:aM (bQ w k).1
  ·obtain⟨d,e⟩:=q a;rw[kL l w k a];cases b:(bQ w k).1.XX
   ·have n:((bQ w k).1.X3==0)=false:=by
     unfold aM at a;rw[b]at a;simpa using a
    rw[vQ w k a b,a,To (by simp),bZ,Tq (by exact n)];rw[bZ]
   ·rw[tO w k a b,To (by simp[aM]),bZ,To (by simp[me,e b]),To (by simp[me,EK,d]),Tq (by simp[me,EK,d]),bZ];rfl
  ·obtain⟨d,e⟩:=p a;have m:=j.2.2 a;rw[l8 l w k i a];cases c:((bQ w k).1.text.toList == [36,41])
   ·cases g:lg (bQ w k).1.text
    ·rw[xn w k i a c g,bZ,To (by simp[me,e]),To (by simp only[me,EK];rw[c];simp),To (by simp only[me,EK];rw[d];simp),To (by rw[<-vN];simp only[me];rw[g];simp)];exact o _ j.2.1 (by omega)
    ·rw[tN w k a c g,To (by simp[aM]),bZ,To (by simp[me,e]),To (by simp only[me,EK];rw[c];simp),To (by simp only[me,EK];rw[d];simp),Tq (by rw[<-vN];exact g)];rfl
   ·rw[rX w k a c,Tq a,bZ,To (by simp[me,e]),Tq (by simp only[me,EK];exact c)]
theorem Jo(f:Nat):∀k,k<=w.size->w.size-k+1<=f->bZ false (nZ l w k)=mM l w k:=by
 induction f with
 | zero=>intro k _ h;omega
 | succ f j =>
  intro k d q;have i:=ik w k d;obtain⟨r,o⟩:=uy w k d;cases b:aM (bQ w k).1
  ·obtain⟨m,p⟩:=o b;have a:=sV w k (TG b);rw[kL l w k b,kI l w k (by rw[a];exact b),a,bZ,To (by simp[me,EK,m]),bZ]
  ·have n:=i.2.2 b;rw[l8 l w k d b];cases e:((bQ w k).1.text.toList == [36,40])
   ·have a:=sV w k (TA e);rw[kJ l w k d (by rw[a];exact b),a,bZ,To (by simp only[me,EK];rw[e];simp),j _ i.2.1 (by omega)]
   ·have g:=jE w (bQ w k).2 i.2.1;rw[bZ,Tq (by simp only[me,EK];exact e),Mm l w _ _ i.2.1 (Tp _)];cases c:aM (bh w (bQ w k).2).1
    ·have a:=vY w k b e c;rw[To (by simp),kI l w k (by rw[a];exact c),a]
    ·have a:=IE w k d b e c;rw[Tq rfl,j _ g.2 (by omega)];exact(GB l w k _ d g.2 a).symm
theorem Ay(a:Fs)(k:Nat):ss a k=mM (aG a k) (ak a k) 0:=by
 unfold ss;rw[GY];exact Jo _ _ _ 0 (Ub _) (Tp _)
theorem fX(h:b<o.length):tS (o++H) b=tS o b:=by
 unfold tS;rw[Tn,Tn,TP h]
theorem oj:tS (H++[B]) H.length=B.s:=by
 unfold tS;rw[Tn,TI (Tp _),Uy];rfl
theorem Bu(h:b+1<o.length):ee (o++H) b=ee o b:=by
 unfold ee;rw[fX o H b (by omega),fX o H (b+1) h,Tu];have a:decide (o.length+H.length<=b+1)=false:=by simp;omega
 have c:decide (o.length<=b+1)=false:=by simp;omega
 rw[a,c]
theorem JY(d:D<=b)(c:b<o.length)(a:cd (tS o b)=true):ee (o++H) D=ee o D:=by
 by_cases e:D=b
 ·subst e;unfold ee;rw[fX o H D c,(ly a).1];simp
 ·exact Bu o H D (by omega)
theorem xX(i:Nat)(c:i<=o.length):fE (o++H) i=fE o i:=by
 induction i with
 | zero=>rfl
 | succ i b =>
  rw[fE,fE,b (by omega),fX o H i (by omega)];cases a:cd (tS o i)
  ·rfl
  ·rw[JY o H _ i (Np o i) (by omega) a]
theorem FM(k:Nat):∃M,(fE H (b+k)).1=(fE H b).1++M/\∀m∈M,b<m.z:=by
 induction k with
 | zero=>exact⟨[],by simp,by simp⟩
 | succ k e =>
  obtain⟨M,a,c⟩:=e;rw[show b+(k+1)=(b+k)+1 by omega,fE];split
  ·refine⟨M++[⟨(fE H (b+k)).2,b+k+1,(ee H (fE H (b+k)).2).2,(ee H (fE H (b+k)).2).1⟩],by simp only[a,List.append_assoc],fun m d=>?_⟩;rcases Uf.1 d with h | h
   ·exact c m h
   ·rw[TH.1 h];show b<b+k+1;omega
  ·exact⟨M,a,c⟩
theorem Aw:∃M,aa (o++H)=aa o++M/\∀m∈M,o.length<m.z:=by
 obtain⟨M,a,b⟩:=FM (o++H) o.length H.length;refine⟨M,?_,b⟩;unfold aa;rw[Tu,a,xX o H _ (Tp _)]
def fA(T:List Tk):Nat:=(fE T T.length).2
theorem FR:fA H=kZ (aa H) (aa H).length:=(dN H).fr
theorem nU:aa (H++[B])=(if cd B.s=true then aa H++[⟨fA H,H.length+1,(ee (H++[B]) (fA H)).2,(ee (H++[B]) (fA H)).1⟩] else aa H)/\fA (H++[B])=(if cd B.s=true then H.length+1 else fA H):=by
 unfold aa fA;rw[Tu,Ui,Up,fE,xX H [B] H.length (Tp _),oj];split <;> exact⟨rfl,rfl⟩
theorem jI(h:b<F.length):aq (F++y) b=aq F b:=by
 unfold aq;rw[Tn,Tn,TP h]
theorem CF(h:b<=F.length):kZ (F++y) b=kZ F b:=by
 unfold kZ;split
 ·rw[jI F y (b-1) (by omega)]
 ·rfl
theorem Ib(S M:List Sm)(h:∀m∈M,b<m.z):oy b (S++M)=oy b S:=by
 induction S with
 | nil =>
  cases M with
  | nil=>rfl
  | cons m M =>
   have:=h m (by simp)
   show(if m.z<=b then oy b M+1 else 0)=0
   rw[To (by omega)]
 | cons s S a=>rw[Vx,oy,oy,a]
theorem sF(h:b<=F.length):aO (F++y) D b=aO F D b:=by
 unfold aO;by_cases a:D<=F.length
 ·rw[UB a,UV (by rw[Uw];omega)]
 ·rw[show b-D=0 by omega];simp
theorem lT(h:b<=F.length):bt (F++y) b=bt F b:=by
 unfold bt;rw[UV h]
theorem zH(L M:List Tk)(h:∃u∈L,nV u.s=true):lI (L++M)=lI L:=by
 induction L with
 | nil=>obtain⟨u,b,-⟩:=h;cases b
 | cons a L e =>
  rw[Vx,lI,lI];split
  ·rfl
  ·next d =>
   rw[e];obtain⟨u,b,c⟩:=h;rcases Ua.1 b with rfl | b
   ·exact absurd c d
   ·exact⟨u,b,c⟩
theorem Lr(c:dU i I):∃u∈i.drop I,nV u.s=true:=by
 obtain⟨e,d,b,a⟩:=c;refine⟨i[e],?_,?_⟩
 ·rw[List.mem_iff_getElem?];exact⟨e-I,by rw[Vy,show I+(e-I)=e by omega,Tm b]⟩
 ·unfold tS at a;rw[Tn,Tm b]at a;exact a
theorem qx(a:dU o b):bB (o++H) b=bB o b:=by
 have c:b<=o.length:=by obtain⟨e,d,f,-⟩:=a;omega
 unfold bB;rw[UB c,zH _ _ (Lr a)]
theorem Lq(f:dU o b):dU (o++H) b:=by
 obtain⟨e,a,c,d⟩:=f;exact⟨e,a,by rw[Tu];omega,by rw[fX o H e c];exact d⟩
theorem lR(h:∀j,j<I->z6 j=y1 j):(List.range I).any z6=(List.range I).any y1:=by
 rw[UK,Us,Us];constructor
 ·rintro ⟨j,a,b⟩;exact⟨j,a,by rw[<-h j (TF.1 a)];exact b⟩
 ·rintro ⟨j,a,b⟩;exact⟨j,a,by rw[h j (TF.1 a)];exact b⟩
theorem xC{l:Xv}{q:Nat->Bool}(h:∀j∈l,z6 j=q j):l.find? z6=l.find? q:=by
 induction l with
 | nil=>rfl
 | cons a l c =>
  rw[WN,WN,h a (by simp),c (fun j b=>h j (by simp[b]))]
section
variable {T U:List Tk} {S M:List Sm} {n:Nat}
theorem xo(c:n<=S.length)(b:∀j,j<n->((aq S j).k.toList==L.toList)=true->dU T (aq S j).h):jF (T++U) (S++M) L l n y0=jF T S L l n y0:=by
 unfold jF;refine lR (fun j a=>?_);unfold oP;rw[jI S M j (by omega),sF S M j n c];cases h:((aq S j).k.toList==L.toList)
 ·rfl
 ·rw[qx T U _ (b j a h)]
theorem uT(a:iY T S n):eK (T++U) (S++M) w n=eK T S w n:=xo _ w _ a.m (by rw[oX.1];exact a.c)
theorem I1(a:iY T S n):iE (T++U) (S++M) w n=iE T S w n:=xo _ w _ a.m (by rw[oX.2];exact a.v)
theorem zZ(h:g.a<T.length):bR (T++U) g=bR T g:=by
 unfold bR;rw[fX T U g.a h]
theorem t9(c:iY T S n):bC (T++U) (S++M) w n=bC T S w n:=by
 unfold bC
 rw[xC (q:=mO T S w) (fun j b=>by
  have b:=TF.1 b;have:=c.m;unfold mO;rw[jI S M j (by omega),zZ _ (c.a j b)])]
theorem Ax(a:iY T S n):jL (T++U) (S++M) w n=jL T S w n:=by
 unfold jL;rw[t9 w a,uT w a,xo _ w _ a.m (by rw[oX.2];exact a.v)]
theorem JN(b:iY T S n)(c:mT T S n):gJ (T++U) (S++M) w n=gJ T S w n:=by
 unfold gJ
 rw[xC (q:=rT T S w n) (fun j a=>by
  have a:=TF.1 a;have:=b.m;unfold rT;rw[jI S M j (by omega),sF S M j n b.m];cases h:((aq S j).k.toList == [36,102])
  ·rfl
  ·rw[fX T U _ (c j a h)])]
theorem Ki(a:iY T S n):j6 (T++U) (S++M) l n y0 m=j6 T S l n y0 m:=by
 unfold j6;rw[Ax l a,t9 l a,uT l a,I1 l a]
theorem Gz(a:iY T S n)(b:mT T S n):il (T++U) (S++M) L l n m=il T S L l n m:=by
 unfold il;rw[uT l a,I1 l a,JN l a b]
theorem DW(a:iY T S n)(b:mT T S n):mH (T++U) (S++M) L l n m=mH T S L l n m:=by
 unfold mH;rw[Ki l _ m a,Gz L l m a b]
theorem zS(a:iY T S n):dD (T++U) (S++M) w n=dD T S w n:=by
 unfold dD;rw[lT S M n a.m,Ax w a]
end
theorem Hw(a:D<=b)(c:b<=o.length):eF (o++H) D b=eF o D b:=by
 unfold eF;rw[UB (by omega),UV (by rw[Uw];omega)]
theorem xk(f:o.length<=100000)(i:Nat)(c:i<o.length)(a:∀j,j<i->aY o (aa o) j=0):aY (o++H) (aa (o++H)) i=aY o (aa o) i:=by
 obtain⟨b,k⟩:=QF o f i c a;obtain⟨M,d,n⟩:=Aw o H;rw[d];generalize aa o=S at *;have g:jD (S++M) i=jD S i:=Ib i S M (fun m l=>by have:=n m l;omega);have p:=Ms S i;unfold aY;rw[g,CF S M _ b.m,fX o H i c];by_cases e:i=kZ S (jD S i)
 ·rw[Tq e,Tq e,zS _ b]
 ·rw[To e,To e,Bu o H _ (by omega)];split
  ·rfl
  ·next q =>
   rw[DW _ _ _ b k,Hw o H _ i (by omega) (by omega)]
theorem sH(b:o.length<=100000)(h:∀j,j<o.length->aY o (aa o) j=0):∀j,j<o.length->aY (o++H) (aa (o++H)) j=0:=fun j a=>by
 rw[xk o H b j a (fun q c=>h q (by omega))];exact h j a
def vT(o:Int)(L:List Sm):Int:=L.foldl (fun o s=>aR o s.k) o
theorem zL(c:Int)(k:Xs):aR (z7+c) k=aR z7 k+c:=by
 unfold aR;split <;> split <;> omega
theorem Dc(L:List Sm):∀o c,vT (o+c) L=vT o L+c:=by
 induction L with
 | nil=>intro o c;rfl
 | cons s L a =>
  intro o c;show vT (aR (o+c) s.k) L=vT (aR o s.k) L+c;rw[zL,a]
theorem Jf(L:List Sm)(s:Sm):∀o,rN o (L++[s])=(rN o L&&decide (0<=vT o (L++[s]))):=by
 induction L with
 | nil =>
  intro o
  show(if aR o s.k<0 then false else rN (aR o s.k) [])=(rN o []&&decide (0<=aR o s.k))
  simp only[rN];by_cases h:aR o s.k<0
  ·rw[Tq h];simp;omega
  ·rw[To h];simp;omega
 | cons a L b =>
  intro o;rw[Vx,rN,rN];by_cases h:aR o a.k<0
  ·rw[Tq h,Tq h];rfl
  ·rw[To h,To h,b];rfl
theorem Fl(c:D<=b):vT 0 ((y.drop D).take (b-D))=bt y b-bt y D:=by
 have e:y.take b=y.take D++(y.drop D).take (b-D):=by
  rw[show b=D+(b-D) by omega,List.take_add];simp
 have a:bt y b=vT (bt y D) ((y.drop D).take (b-D)):=by
  unfold bt vT;rw[e,Vo]
 have:=Dc ((y.drop D).take (b-D)) 0 (bt y D);rw[Int.zero_add]at this;omega
theorem oN(c:D<=b)(d:b<y.length):aO y D (b+1)=(aO y D b&&decide (bt y D<=bt y (b+1))):=by
 have e:(y.drop D).take (b+1-D)=(y.drop D).take (b-D)++[y[b]]:=by
  rw[show b+1-D=(b-D)+1 by omega,Uo (by rw[Uw];omega),V9];congr 3;omega
 have a:=Fl y D (b+1) (by omega);unfold aO;rw[e]at a ⊢;rw[Jf,a];congr 1;rw[decide_eq_decide];omega
theorem CA:aO y b b=true:=by
 unfold aO;rw[Uy,VQ,rN]
theorem AQ(n:Nat)(g:b<=n)(i:n<=y.length)(h:aO y b n=true):∀m,b<=m->m<=n->bt y b<=bt y m:=by
 induction n with
 | zero =>
  intro m a d;have e:m=b:=by omega
  rw[e];exact Wa _
 | succ n f =>
  intro m a d;by_cases e:b=n+1
  ·have e:m=b:=(by omega);rw[e];exact Wa _
  ·rw[oN y b n (by omega) (by omega),TM,UG]at h;by_cases c:m=n+1
   ·rw[c];exact h.2
   ·exact f (by omega) (by omega) h.1 m a (by omega)
def kM(S:List Sm)(n:Nat):Xv:=(List.range n).filter (fun j=>aO S j n)
theorem i8(h:zt∈kM x I):zt<I:=TF.1 (Uj.1 h).1
theorem EY(e:b<=y.length):(kM y b).Pairwise (fun a c=>bt y a<=bt y c):=by
 have h:=(VZ (n:=b)).filter (fun j=>aO y j b);refine h.imp_of_mem (fun {a c} ha d hab=>?_);have d:=i8 d;exact AQ y a b (by omega) e (Uj.1 ha).2 c (by omega) (by omega)
theorem Gt{f:Nat->Int}(l:Xv)(h:l.Pairwise (fun a b=>f a<=f b)):l=l.filter (fun j=>decide (f j<=z7))++l.filter (fun j=>!decide (f j<=z7)):=by
 induction l with
 | nil=>rfl
 | cons a l c =>
  obtain⟨g,i⟩:=List.pairwise_cons.1 h;have c:=c i;by_cases d:f a<=z7
  ·rw[Vl (by simpa using d),U8 (by simpa using d),Vx,<-c]
  ·have e:l.filter (fun j=>decide (f j<=z7))=[]:=by
    rw[VY];intro b k;have:=g b k;simp;omega
   rw[U8 (by simpa using d),Vl (by simpa using d),e];rw[e]at c;rw[V3]at c ⊢;rw[<-c]
theorem gj(h:∀j,j<I->z6 j=y1 j):(List.range I).filter z6=(List.range I).filter y1 :=
 Xb (fun j a=>h j (TF.1 a))
theorem iK:bt (y++[g]) (y.length+1)=aR (bt y y.length) g.k:=by
 rw[vR (y++[g]) y.length (by simp),lT y [g] _ (Tp _)];congr 2;simp
theorem sD:kM (y++[g]) (y.length+1)=(kM y y.length).filter (fun j=>decide (bt y j<=aR (bt y y.length) g.k))++(if 0<=aR 0 g.k then [y.length] else []):=by
 unfold kM;rw[UT,UH,WX];congr 1
 ·refine gj (fun j a=>?_);rw[oN (y++[g]) j y.length (by omega) (by simp),sF y [g] j _ (Tp _),lT y [g] j (by omega),iK,Xh]
 ·have e:aO (y++[g]) y.length (y.length+1)=decide (0<=aR 0 g.k):=by
   rw[oN (y++[g]) y.length y.length (Tp _) (by simp),CA,lT y [g] _ (Tp _),iK,U5,decide_eq_decide];have:=zL 0 (bt y y.length) g.k;rw[Int.zero_add]at this;omega
  by_cases h:0<=aR 0 g.k
  ·rw[Tq h,Vl (by rw[e];simpa using h)];rfl
  ·rw[To h,U8 (by rw[e];simpa using h)];rfl
theorem Jg(a:I<=x.length)(h:zt∈kM x I):bt x zt<=bt x I:=by
 have b:=i8 h;exact AQ x zt I (by omega) a (Uj.1 h).2 I (by omega) (Tp _)
structure tC(F:Nat->Xt)(S:List Sm)(L:Xt)(B:Xv):Prop where
 l:L=(kM S S.length).flatMap F
 b:(B.length:Int)=bt S S.length
 o:∀i,i<B.length->B[i]?=some (((kM S S.length).filter (fun j=>decide (bt S j<=(i:Int)))).flatMap F).length
theorem dR{l:Xv}{G:Nat->Xt}(h:∀j∈l,u j=G j):l.flatMap u=l.flatMap G:=by
 induction l with
 | nil=>rfl
 | cons a l c=>rw[Uu,Uu,h a (by simp),c (fun j b=>h j (by simp[b]))]
theorem sM(b:I<=x.length)(c:bt x I<=z4):(kM x I).filter (fun j=>decide (bt x j<=z4))=kM x I :=
 List.filter_eq_self.2 (fun j a=>by have:=Jg b a;simp;omega)
theorem cN:(y++[g]).length=y.length+1:=by simp
theorem p9(b:I<=x.length)(c:Int):(kM x I).filter (fun j=>decide (bt (x++[z5]) j<=c))=(kM x I).filter (fun j=>decide (bt x j<=c)) :=
 Xb (fun j a=>by rw[lT x [z5] j (by have:=i8 a;omega)])
theorem tC.norm(h:tC u x z3 E)(s:Sm)(c:∀o,aR o s.k=o)(d:∀j,j<x.length->C j=u j):tC C (x++[s]) (z3++C x.length) E:=by
 have e:=sD x s;rw[c,c,Tq (Wa _),sM (Tp _) (Wa _)]at e;have f:=h.b;refine⟨?_,?_,fun i g=>?_⟩
 ·rw[cN,e,U3,h.l,dR (fun j a=>d j (i8 a))];simp
 ·rw[cN,iK,c];exact f
 ·rw[cN,e,UH,p9 (Tp _),U8 (by rw[lT x [s] _ (Tp _)];simp;omega),WL,TV,dR (fun j a=>d j (i8 (Uj.1 a).1))];exact h.o i g
theorem tC.push(h:tC u x z3 E)(s:Sm)(d:∀o,aR o s.k=o+1)(m:∀j,j<x.length->C j=u j)(g:C x.length=[]):tC C (x++[s]) z3 (E++[z3.length]):=by
 have e:=sD x s;rw[d,d,Tq (by omega),sM (Tp _) (by omega)]at e;have r:=h.b;have f:∀p:Nat->Bool,([x.length].filter p).flatMap C=[]:=fun p=>by
  rw[List.flatMap_eq_nil_iff];intro j c;have:=TH.1 (Uj.1 c).1;rw[this];exact g
 refine⟨?_,?_,fun i q=>?_⟩
 ·rw[cN,e,U3,h.l,dR (fun j c=>m j (i8 c))];simp[g]
 ·rw[cN,iK,d];simp;omega
 ·rw[cN,e,UH,p9 (Tp _),U3,f,TV,dR (fun j c=>m j (i8 (Uj.1 c).1))];simp only[List.length_append,List.length_cons,List.length_nil]at q;by_cases a:i<E.length
  ·rw[TP a];exact h.o i a
  ·have n:i=E.length:=(by omega);rw[n,TI (Tp _),Uy,sM (Tp _) (by omega),<-h.l];rfl
theorem tC.pop(h:tC u x z3 (E++[I]))(s:Sm)(d:∀o,aR o s.k=o-1)(g:∀j,j<x.length->C j=u j):tC C (x++[s]) (z3.take I) E:=by
 have e:=sD x s;rw[d,d,To (by omega),TV]at e;have r:=h.b;simp only[List.length_append,List.length_cons,List.length_nil]at r;have t:bt x x.length-1=E.length:=by omega
 rw[t]at e;have c:=h.o E.length (by simp);rw[TI (Tp _),Uy]at c;have c:I=(((kM x x.length).filter (fun j=>decide (bt x j<=E.length))).flatMap u).length:=by simpa using c
 refine⟨?_,?_,fun i v=>?_⟩
 ·rw[cN,e,dR (G:=u) (fun j a=>g j (i8 (Uj.1 a).1))];have n:=h.l;rw[Gt (f:=bt x) (E.length:Int) (kM x x.length) (EY x _ (Tp _)),U3]at n;rw[n,c,UV (Tp _),UN]
 ·rw[cN,iK,d];omega
 ·rw[cN,e,WX];have p:(kM x x.length).filter (fun j=>decide (bt (x++[s]) j<=(i:Int))&&decide (bt x j<=E.length))=(kM x x.length).filter (fun j=>decide (bt x j<=(i:Int))) :=
   Xb (fun j a=>by
    rw[lT x [s] j (by have:=i8 a;omega)];by_cases m:bt x j<=(i:Int)
    ·have q:bt x j<=E.length:=(by omega);simp[m,q]
    ·simp[m])
  rw[p,dR (G:=u) (fun j a=>g j (i8 (Uj.1 a).1))];have:=h.o i (by simp;omega);rw[TP v]at this;exact this
def EB(T:List Tk)(S:List Sm)(j:Nat):Xt:=if((aq S j).k.toList == [36,118])=true then bB T (aq S j).h else []
def Jz(T:List Tk)(S:List Sm)(j:Nat):Xt:=if((aq S j).k.toList == [36,99])=true then bB T (aq S j).h else []
def Ig(T:List Tk)(S:List Sm)(j:Nat):Xt:=if((aq S j).k.toList == [36,102])=true then [tS T ((aq S j).h+1)] else []
def Nh(T:List Tk)(S:List Sm)(j:Nat):Xt:=if((bR T (aq S j)).toList == [])=true then [] else [bR T (aq S j)]
theorem oU(F:Nat->Xt)(l:Xv)(x:Xs):aK (l.flatMap F) x=l.any (fun j=>aK (F j) x):=by
 unfold aK;rw[List.any_flatMap]
theorem jt:aK [] w=false:=rfl
theorem xK(a:Xt)(x:Xs):aK (m++a) x=(aK m x||aK a x):=by
 unfold aK;rw[Xo]
theorem sN:aK [l] w=(l.toList==w.toList):=by simp[aK]
theorem vK(q:Nat->Bool):(z0.filter z1).any q=z0.any (fun j=>z1 j&&q j):=by
 rw[List.any_filter]
theorem I6:iE H y l b=aK ((kM y b).flatMap (EB H y)) l:=by
 rw[oU];unfold kM;rw[vK];unfold iE jF;refine lR (fun j a=>?_);unfold oP EB;rw[oX.2];cases h:((aq y j).k.toList == [36,118])
 ·rw[To (by simp),jt];simp
 ·rw[Tq rfl];simp[Bool.and_comm]
theorem uU:eK H y l b=aK ((List.range b).flatMap (Jz H y)) l:=by
 rw[oU];unfold eK jF;refine lR (fun j a=>?_);unfold oP Jz;rw[oX.1];cases h:((aq y j).k.toList == [36,99])
 ·rw[To (by simp),jt];simp
 ·rw[Tq rfl];simp
theorem E1:jF H y ⟨#[36,118]⟩ l b false=aK ((List.range b).flatMap (EB H y)) l:=by
 rw[oU];unfold jF;refine lR (fun j a=>?_);unfold oP EB;rw[oX.2];cases h:((aq y j).k.toList == [36,118])
 ·rw[To (by simp),jt];simp
 ·rw[Tq rfl];simp
theorem Pd:(match z0.find? z1 with | some j=>(j:Int) | none=>-1)=-1 ↔ z0.any z1=false:=by
 cases h:z0.find? z1 with
 | none=>simp only[true_iff];rw[V8];rw[UD]at h;exact h
 | some j =>
  have a:=Vg h;have b:=Ur h;have c:z0.any z1=true:=Us.2 ⟨j,b,a⟩;rw[c];simp only[Bool.true_eq_false,iff_false];intro d;have:(0:Int)<=(j:Int):=by omega
  omega
theorem Il:decide (0<=(match z0.find? z1 with | some j=>(j:Int) | none=>-1))=z0.any z1:=by
 cases h:z0.find? z1 with
 | none =>
  have:=(Pd z0 z1).1 (by rw[h]);rw[this];rfl
 | some j =>
  have a:z0.any z1=true:=Us.2 ⟨j,Ur h,Vg h⟩;rw[a];simp
theorem ua:decide (0<=bC H y l b)=aK ((List.range b).flatMap (Nh H y)) l:=by
 rw[oU];unfold bC;refine(Il (List.range b) (mO H y l)).trans ?_;refine lR (fun j a=>?_);unfold mO Nh;cases h:((bR H (aq y j)).toList == [])
 ·rw[To (by simp),sN];simp
 ·rw[Tq rfl,jt];simp
theorem JO:decide (0<=gJ H y l b)=aK ((kM y b).flatMap (Ig H y)) l:=by
 rw[oU];unfold kM;rw[vK];unfold gJ;refine(Il (List.range b) (rT H y l b)).trans ?_;refine lR (fun j a=>?_);unfold rT Ig;cases h:((aq y j).k.toList == [36,102])
 ·rw[To (by simp),jt];simp
 ·rw[Tq rfl,sN];simp[Bool.and_comm]
theorem BD(d:H.length<=100000)(b:∀j,j<H.length->aY H (aa H) j=0):iY H (aa H) (aa H).length/\mT H (aa H) (aa H).length:=by
 have p:=dN H;have f:(aa H).length<=H.length:=pJ H H.length;generalize aa H=S at *;have c:=fun j (a:j<S.length)=>EG p j a (fun q _ e=>b q (by have:=(p.s j a).2;omega));refine⟨⟨Tp _,by omega,d,fun j a=>(c j a).1,fun j a=>(c j a).2.1,fun j a=>?_⟩,fun j a=>(c j a).2.2⟩;have:=(p.s j a).1.lt;have:=(p.s j a).2;omega
structure tx(T:List Tk)(S:List Sm)(d:Db):Prop where
 con:d.XA=(List.range S.length).flatMap (Jz T S)
 var:∀x,aK d.XB x=aK ((List.range S.length).flatMap (EB T S)) x
 act:tC (EB T S) S d.XH (d.XV.map (·.1))
 typ:tC (Ig T S) S d.XK (d.XV.map (·.2))
def kg(T:List Tk)(S:List Sm):Xt:=(List.range S.length).flatMap (Nh T S)
def fm(l:List UInt8)(k:Int):Prop:=(l=[36,99]/\k=7)∨(l=[36,118]/\k=8)∨(l=[36,100]/\k=1)∨(l=[36,102]/\k=2)∨(l=[36,101]/\k=3)∨(l=[36,97]/\k=4)∨(l=[36,112]/\k=5)
theorem fm.c:fm [36,99] 7:=by simp[fm]
theorem fm.v:fm [36,118] 8:=by simp[fm]
theorem fm.d:fm [36,100] 1:=by simp[fm]
theorem fm.f:fm [36,102] 2:=by simp[fm]
theorem fm.e:fm [36,101] 3:=by simp[fm]
theorem fm.a:fm [36,97] 4:=by simp[fm]
theorem fm.p:fm [36,112] 5:=by simp[fm]
def jy(y:Xs):Bool:=!(y.toList == [36,61])
def uK(T:List Tk)(d:Db):Prop :=
 (fA T=T.length/\d.XS=0/\d.Xy=[]/\d.XC=false/\d.XG=kg T (aa T)) ∨
 (fA T+1=T.length/\d.XS=6/\d.Xy=[]/\d.XC=false/\d.XG=kg T (aa T)++[tS T (fA T)]/\((tS T (fA T)).toList == [])=false/\ii (tS T (fA T)) ⟨#[36]⟩=false) ∨
 ∃(key:Xs) (head:Nat) (B:Xt),ee T (fA T)=(key,head)/\fA T<head/\head<=T.length/\fm key.toList d.XS/\eF T head T.length=B/\d.XC=aK B ⟨#[36,61]⟩/\d.Xy=B.takeWhile jy/\(d.XC=true->d.XS=5/\d.Xy≠[]) /\
  d.XG=kg T (aa T)++(if(aA key||aH key)=true then [tS T (fA T)] else [])/\((aA key||aH key)=true->((tS T (fA T)).toList == [])=false)
theorem uK.none(a:fA i=i.length)(b:N.XS=0)(c:N.Xy=[])(d:N.XC=false)(e:N.XG=kg i (aa i)):uK i N:=TG ⟨a,b,c,d,e⟩
theorem uK.lab(a:fA i+1=i.length)(b:N.XS=6)(c:N.Xy=[])(d:N.XC=false)(e:N.XG=kg i (aa i)++[tS i (fA i)])(f:((tS i (fA i)).toList == [])=false)(g:ii (tS i (fA i)) ⟨#[36]⟩=false):uK i N:=TA (TG ⟨a,b,c,d,e,f,g⟩)
theorem uK.body(c:ee i (fA i)=(l,b))(d:fA i<b)(e:b<=i.length)(f:fm l.toList N.XS)(g:eF i b i.length=m)(j:N.XC=aK m ⟨#[36,61]⟩)(k:N.Xy=m.takeWhile jy)(n:N.XC=true->N.XS=5/\N.Xy≠[])(o:N.XG=kg i (aa i)++(if(aA l||aH l)=true then [tS i (fA i)] else []))(a:(aA l||aH l)=true->((tS i (fA i)).toList == [])=false):uK i N:=TA (TA ⟨l,b,m,c,d,e,f,g,j,k,n,o,a⟩)
theorem tC.congr(h:tC u x z3 E)(c:∀j,j<x.length->C j=u j):tC C x z3 E :=
 ⟨by rw[dR (G:=u) (fun j a=>c j (i8 a))];exact h.l,h.b,fun i d=>by rw[dR (G:=u) (fun j a=>c j (i8 (Uj.1 a).1))];exact h.o i d⟩
section
variable {T U:List Tk} {S M:List Sm}
theorem pT(b:iY T S S.length)(j:Nat)(a:j<S.length):EB (T++U) (S++M) j=EB T S j:=by
 unfold EB;rw[jI S M j a];split
 ·next h=>rw[qx T U _ (b.v j a h)]
 ·rfl
theorem wF(b:iY T S S.length)(j:Nat)(a:j<S.length):Jz (T++U) (S++M) j=Jz T S j:=by
 unfold Jz;rw[jI S M j a];split
 ·next h=>rw[qx T U _ (b.c j a h)]
 ·rfl
theorem wH(b:mT T S S.length)(j:Nat)(a:j<S.length):Ig (T++U) (S++M) j=Ig T S j:=by
 unfold Ig;rw[jI S M j a];split
 ·next h=>rw[fX T U _ (b j a h)]
 ·rfl
theorem Iy(c:iY T S S.length)(j:Nat)(b:j<S.length):Nh (T++U) (S++M) j=Nh T S j:=by
 unfold Nh;rw[jI S M j b,zZ _ (c.a j b)]
end
theorem pM(h:∀j,j<I->C j=u j):(List.range I).flatMap C=(List.range I).flatMap u:=dR (fun j a=>h j (TF.1 a))
theorem fJ(h:∀j,j<I->C j=u j):(List.range (I+1)).flatMap C=(List.range I).flatMap u++C I:=by
 rw[UT,U3,pM h];simp
theorem rA(b:iY i x x.length):kg (i++A) x=kg i x:=by
 unfold kg;exact pM (fun j a=>by have:=Iy (U:=A) (M:=[]) b j a;rw[TV]at this;exact this)
theorem vh(b:iY i x x.length):kg (i++A) (x++[g])=kg i x++Nh (i++A) (x++[g]) x.length:=by
 unfold kg;rw[cN];exact fJ (fun j a=>Iy b j a)
theorem tx.same(h:tx i x N)(d:iY i x x.length)(m:mT i x x.length)(e:z2.XA=N.XA)(f:z2.XB=N.XB)(g:z2.XH=N.XH)(k:z2.XK=N.XK)(b:z2.XV=N.XV):tx (i++A) x z2:=by
 have c:∀j,j<x.length->EB (i++A) x j=EB i x j:=fun j a=>by have:=pT (U:=A) (M:=[]) d j a;rw[TV]at this;exact this
 have l:∀j,j<x.length->Jz (i++A) x j=Jz i x j:=fun j a=>by have:=wF (U:=A) (M:=[]) d j a;rw[TV]at this;exact this
 have n:∀j,j<x.length->Ig (i++A) x j=Ig i x j:=fun j a=>by have:=wH (U:=A) (M:=[]) m j a;rw[TV]at this;exact this
 exact⟨by rw[e,pM l];exact h.con,fun o=>by rw[f,pM c];exact h.var o,by rw[g,b];exact h.act.congr c,by rw[k,b];exact h.typ.congr n⟩
theorem lu:aq (y++[g]) y.length=g:=vy y g
theorem tx.close(h:tx i x N)(c:iY i x x.length)(n:mT i x x.length)(s:Sm)(e:∀o,aR o s.k=o)(f:z2.XA=N.XA++Jz (i++A) (x++[s]) x.length)(g:∀b,aK z2.XB b=(aK N.XB b||aK (EB (i++A) (x++[s]) x.length) b))(l:z2.XH=N.XH++EB (i++A) (x++[s]) x.length)(m:z2.XK=N.XK++Ig (i++A) (x++[s]) x.length)(d:z2.XV=N.XV):tx (i++A) (x++[s]) z2 :=
 ⟨by rw[cN,fJ (fun j a=>wF c j a),<-h.con];exact f,fun b=>by rw[cN,fJ (fun j a=>pT c j a),xK,<-h.var];exact g b,
  by rw[l,d];exact h.act.norm s e (fun j a=>pT c j a),by rw[m,d];exact h.typ.norm s e (fun j a=>wH n j a)⟩
theorem CI(g:H.length<=100000)(a:∀j,j<H.length->aY H (aa H) j=0):aY (H++[B]) (aa (H++[B])) H.length =
  if H.length=fA H then dD H (aa H) B.s (aa H).length
  else if H.length<(ee (H++[B]) (fA H)).2 then(if(aA B.s||aH B.s)=true then 0 else 14)
  else mH H (aa H) (ee (H++[B]) (fA H)).1 B.s (aa H).length (eF H (ee (H++[B]) (fA H)).2 H.length):=by
 obtain⟨d,k⟩:=BD H g a;obtain⟨M,f,l⟩:=Aw H [B];have p:=dN H;rw[f,FR];generalize aa H=S at *;have i:jD (S++M) H.length=S.length:=by
  unfold jD;rw[Ib H.length S M l];exact MB _ S S.length (fun q b=>⟨aq S q,IU S q b,(p.s q b).2⟩) (fun s c=>by rw[Um (Tp _)]at c;cases c)
 unfold aY;rw[i,CF S M _ (Tp _),oj];by_cases e:H.length=kZ S S.length
 ·rw[Tq e,Tq e,zS _ d]
 ·rw[To e,To e];split
  ·rfl
  ·next m=>rw[DW _ _ _ d k,Hw H [B] _ _ (by omega) (Tp _)]
theorem Ep(h:tx i x N)(b:N.XG=kg i x)(a:Xs):jL i x a x.length=eC N a:=by
 unfold jL eC;rw[ua,uU,E1,<-h.con,<-h.var,b,V6];rfl
theorem Lv(h:tx i x N)(b:N.XG=kg i x)(a:Xs):(decide (0<=bC i x a x.length)||(eK i x a x.length||iE i x a x.length))=fc N a:=by
 unfold fc;rw[ua,uU,I6,<-h.con,<-h.act.l,b,V6];rfl
theorem CV(h:tx i x N):bt x x.length=(N.XV.length:Int):=by
 have:=h.act.b;rw[TR]at this;exact this.symm
theorem sJ(h:z.toList=r)(o:Int):aR o z=if(r == [36,125])=true then(if(r == [36,123])=true then o+1 else o)-1 else(if(r == [36,123])=true then o+1 else o):=by
 unfold aR;rw[h]
theorem jV{k:Xs}(h:k.toList=r):aA k=((r == [36,97])||(r == [36,112]))/\aH k=((r == [36,102])||(r == [36,101]))/\cd k=((r == [36,46])||(r == [36,123])||(r == [36,125])):=by
 unfold aA aH cd;rw[h];exact⟨rfl,rfl,rfl⟩
theorem Gx(h:z.toList=r):ii z ⟨#[36]⟩=ii ⟨r.toArray⟩ ⟨#[36]⟩:=by
 rw[qH (x:=z) (l:=r) (by rw[h];simp)]
theorem fm.dep(h:fm z.toList z4):(∀o,aR o z=o)/\ii z ⟨#[36]⟩=true/\cd z=false:=by
 generalize hl:z.toList=l at h;have a:=fun o=>sJ hl o;have b:=Gx hl;have c:=(jV hl).2.2
 (rcases h with ⟨rfl,rfl⟩ | ⟨rfl,rfl⟩ | ⟨rfl,rfl⟩ | ⟨rfl,rfl⟩ | ⟨rfl,rfl⟩ | ⟨rfl,rfl⟩ | ⟨rfl,rfl⟩) <;> exact⟨fun o=>a o,b.trans (by decide +kernel),c⟩
section
variable {T:List Tk} {t:Tk} {d:Db}
theorem DF(b:fA T=T.length)(a:ii t.s ⟨#[36]⟩=true):ee (T++[t]) (fA T)=(t.s,T.length+1):=by
 unfold ee;rw[b,oj,a];simp
theorem oV(a:ee T (fA T)=(z,I))(f:fA T<I)(g:I<=T.length)(d:fm z.toList z4):ee (T++[t]) (fA T)=(z,I):=by
 rw[<-a];by_cases h:fA T+1<T.length
 ·exact Bu T [t] _ h
 ·have e:ee T (fA T)=(tS T (fA T),fA T+1):=by
   unfold ee;rw[Tq (by simp;right;omega)]
  rw[a]at e;have c:z=tS T (fA T):=congrArg Prod.fst e;have b:=d.dep.2.1;rw[c]at b;unfold ee;rw[fX T [t] _ (by omega),b];simp
theorem ma(T:List Tk)(h:Nat):eF T h T.length=(T.drop h).map (·.s):=by
 unfold eF;rw[Ve (by rw[Uw];exact Tp _)]
theorem Mr(t:Tk)(h:Nat)(a:h<=T.length):eF (T++[t]) h (T++[t]).length=eF T h T.length++[t.s]:=by
 rw[ma,ma,UB a];simp
theorem tI(L:List Tk)(t:Tk)(c:∀u∈L,(u.s.toList == [36,46])=false)(e:(t.s.toList == [36,46])=true):lI (L++[t])=(L.map (·.s)).takeWhile jy:=by
 induction L with
 | nil=>rw[V3,lI,Tq (uD e)];rfl
 | cons a L g =>
  have d:=c a (by simp);rw[Vx,lI,Vm];cases b:(a.s.toList == [36,61])
  ·rw[To (by unfold nV;rw[d,b];simp),Vb (by unfold jy;rw[b];rfl),g (fun u f=>c u (by simp[f]))]
  ·rw[Tq (by unfold nV;rw[b];rfl),Vs (by unfold jy;rw[b];simp)]
theorem vo(T:List Tk)(h:Nat)(a:fA T<=h):∀u∈T.drop h,cd u.s=false:=by
 intro u c;obtain⟨q,b,e⟩:=Ux c;rw[Uw]at b;have:=(dN T).n (h+q) (by unfold fA at a;omega) (by omega);rw[V9]at e;unfold tS at this;rw[Tn,Tm (by omega)]at this;rw[<-e];exact this
theorem MZ(h:aK m ⟨#[36,61]⟩=false):∀y∈m,jy y=true:=by
 intro y a;unfold aK at h;rw[V8]at h;have:=h y a;have e:(⟨#[36,61]⟩:Xs).toList=[36,61]:=by decide +kernel
 rw[e]at this;unfold jy;simpa using this
theorem LG(B:Xt)(h:∀y∈B,jy y=true):B.takeWhile jy=B:=by
 induction B with
 | nil=>rfl
 | cons a B c=>rw[Vb (h a (by simp)),c (fun y b=>h y (by simp[b]))]
theorem tY(h:aK m ⟨#[36,61]⟩=false):m.takeWhile jy=m:=LG m (MZ m h)
theorem Oj(B:Xt)(y:Xs)(h:aK B ⟨#[36,61]⟩=true):(B++[y]).takeWhile jy=B.takeWhile jy:=by
 have e:(⟨#[36,61]⟩:Xs).toList=[36,61]:=by decide +kernel
 induction B with
 | nil=>cases h
 | cons a B d =>
  rw[Vx];cases b:(a.toList == [36,61])
  ·have c:aK B ⟨#[36,61]⟩=true:=by
    unfold aK at h ⊢;rw[VO,e,b,UM]at h;rw[e];exact h
   rw[Vb (by unfold jy;rw[b];rfl),Vb (by unfold jy;rw[b];rfl),d c]
  ·rw[Vs (by unfold jy;rw[b];simp),Vs (by unfold jy;rw[b];simp)]
end
theorem cG{m:List UInt8}(h:(z.toList==r)=true):(z.toList==m)=(r==m):=by
 have:z.toList=r:=by simpa using h
 rw[this]
theorem dr(h:(z.toList==r)=true):z.toList=r:=by simpa using h
section
variable {T:List Tk} {t:Tk} {d:Db}
theorem nz(d:fA T=T.length)(c:cd t.s=true):aa (T++[t])=aa T++[⟨fA T,T.length+1,T.length+1,t.s⟩]/\fA (T++[t])=(T++[t]).length:=by
 obtain⟨a,b⟩:=nU T t;rw[Tq c,DF d (ly c).1]at a;rw[Tq c]at b;exact⟨a,by rw[b];simp⟩
theorem lW(c:cd t.s=false):aa (T++[t])=aa T/\fA (T++[t])=fA T:=by
 obtain⟨a,b⟩:=nU T t;rw[To (by rw[c];simp)]at a b;exact⟨a,b⟩
theorem QK{S:List Sm}{s:Sm}{U:List Tk}(a:(s.k.toList == [36,118])=false)(b:(s.k.toList == [36,99])=false)(c:(s.k.toList == [36,102])=false):EB U (S++[s]) S.length=[]/\Jz U (S++[s]) S.length=[]/\Ig U (S++[s]) S.length=[]:=by
 unfold EB Jz Ig;rw[lu,a,b,c];exact⟨rfl,rfl,rfl⟩
theorem Fv{S:List Sm}{s:Sm}{U:List Tk}(h:(aA s.k||aH s.k)=false):Nh U (S++[s]) S.length=[]:=by
 have e:bR U s=⟨#[]⟩:=by unfold bR;rw[h,To (by simp)]
 unfold Nh;rw[lu,e,Tq pK]
theorem Ps(h:(aA z5.k||aH z5.k)=true)(b:((tS i z5.a).toList == [])=false):Nh i (x++[z5]) x.length=[tS i z5.a]:=by
 have e:bR i z5=tS i z5.a:=by unfold bR;rw[h,Tq rfl]
 unfold Nh;rw[lu,e,To (by rw[b];simp)]
theorem Gw(w:iY T (aa T) (aa T).length)(R:mT T (aa T) (aa T).length)(I:tx T (aa T) d)(M:fA T=T.length)(hk:d.XS=0)(F:d.Xy=[])(B:d.XC=false)(O:d.XG=kg T (aa T))(hx:(t.s.toList == [])=false) :
  dD T (aa T) t.s (aa T).length=(ay d t.s).1/\((ay d t.s).1=0->tx (T++[t]) (aa (T++[t])) (ay d t.s).2/\uK (T++[t]) (ay d t.s).2):=by
 have E:=CV I;have ac:=Ep I O t.s
 -- a keyword of a statement without a XU
 have G:∀{n:Int} {Q:Db},fm t.s.toList n->(aA t.s||aH t.s)=false->Q={ d with XS:=n }->tx (T++[t]) (aa (T++[t])) Q/\uK (T++[t]) Q:=fun {n Q} u H e=>by
  obtain⟨y,D⟩:=lW (T:=T) (t:=t) u.dep.2.2;have N:ee (T++[t]) (fA (T++[t]))=(t.s,T.length+1):=by rw[D];exact DF M u.dep.2.1
  have hB:eF (T++[t]) (T.length+1) (T++[t]).length=[]:=by rw[ma];simp
  subst e;refine⟨by rw[y];exact I.same w R rfl rfl rfl rfl rfl,uK.body t.s (T.length+1) [] N (by rw[D];omega) (by simp) u hB (by rw[jt];exact B) F (fun h=>by rw[B]at h;cases h) ?_ (fun h=>by rw[H]at h;cases h)⟩;rw[y,H,To (by simp),TV,rA w];exact O
 cases b:(t.s.toList == [36,123])
 ·cases f:(t.s.toList == [36,125])
  ·cases l:(t.s.toList == [36,99])
   ·cases g:(t.s.toList == [36,118])
    ·cases m:(t.s.toList == [36,100])
     ·cases z:(aA t.s||aH t.s)
      ·have h7:(t.s.toList == [36,102])=false/\(t.s.toList == [36,101])=false/\(t.s.toList == [36,97])=false/\(t.s.toList == [36,112])=false:=by
        unfold aA aH at z;simp only[Bool.or_eq_false_iff]at z;exact⟨z.2.1,z.2.2,z.1.1,z.1.2⟩
       obtain⟨g1,g2,g3,g4⟩:=h7;have k:ay d t.s=bU d t.s:=by
        unfold ay;rw[b,f,l,g,m,g1,g2,g3,g4];simp
       have i:dD T (aa T) t.s (aa T).length=if ii t.s ⟨#[36]⟩=true then 8 else if iy t.s=false then 12 else if eC d t.s=true then 13 else 0:=by
        unfold dD;rw[b,f,l,g,m,z,ac];simp
       rw[k,i,iO];unfold bU;cases k1:dC t.s
       ·cases k2:iy t.s
        ·exact⟨rfl,fun h=>by simp at h⟩
        ·cases k3:eC d t.s
         ·refine⟨rfl,fun _=>?_⟩;have C:cd t.s=false:=by
           cases K:cd t.s
           ·rfl
           ·have:=(ly K).1;rw[iO,k1]at this;cases this
          obtain⟨y,D⟩:=lW (T:=T) (t:=t) C;have X:tS (T++[t]) (fA (T++[t]))=t.s:=(by rw[D,M,oj]);simp only[Bool.false_eq_true,if_false];exact⟨by rw[y];exact I.same w R rfl rfl rfl rfl rfl,uK.lab (by rw[D,M];simp) rfl F B (by rw[X,y,rA w,<-O];rfl) (by rw[X];exact hx) (by rw[X,iO];exact k1)⟩
         ·exact⟨rfl,fun h=>by simp at h⟩
       ·exact⟨rfl,fun h=>by simp at h⟩
      ·have k:ay d t.s=(11,d):=by
        unfold ay;rw[b,f,l,g,m];unfold aA aH at z;rw[To (by simp),To (by simp),To (by simp),To (by simp),To (by simp),Tq];simp only[Bool.or_eq_true]at z;rcases z with (h | h) | (h | h)
        ·exact TA (TA (TG h))
        ·exact TA (TA (TA h))
        ·exact TG h
        ·exact TA (TG h)
       have i:dD T (aa T) t.s (aa T).length=11:=by
        unfold dD;rw[b,f,l,g,m,z];simp
       rw[k,i];exact⟨rfl,fun h=>by cases h⟩
     ·have u:=fm.d;rw[<-dr m]at u;have k:ay d t.s=(0,{ d with XS:=1 }):=by
       unfold ay;rw[b,f,l,g,m];simp
      have i:dD T (aa T) t.s (aa T).length=0:=by
       unfold dD;rw[m];simp
      rw[k,i];exact⟨rfl,fun _=>G u (by rw[(jV (dr m)).1,(jV (dr m)).2.1];decide) rfl⟩
    ·have u:=fm.v;rw[<-dr g]at u;have k:ay d t.s=(0,{ d with XS:=8 }):=by
      unfold ay;rw[b,f,l,g];simp
     have i:dD T (aa T) t.s (aa T).length=0:=by
      unfold dD;rw[g];simp
     rw[k,i];exact⟨rfl,fun _=>G u (by rw[(jV (dr g)).1,(jV (dr g)).2.1];decide) rfl⟩
   ·have u:=fm.c;rw[<-dr l]at u;have g:(t.s.toList == [36,118])=false:=by rw[cG l];decide
    have m:(t.s.toList == [36,100])=false:=(by rw[cG l];decide);by_cases A:0<d.XV.length
    ·have k:ay d t.s=(10,d):=by
      unfold ay;rw[b,f,l];simp[A]
     have i:dD T (aa T) t.s (aa T).length=10:=by
      unfold dD;rw[b,f,l,g,m,E,UQ (show(0:Int)<(d.XV.length:Int) by omega)];simp
     rw[k,i];exact⟨rfl,fun h=>by cases h⟩
    ·have k:ay d t.s=(0,{ d with XS:=7 }):=by
      unfold ay;rw[b,f,l,To (by simp),To (by simp),Tq rfl,To A]
     have i:dD T (aa T) t.s (aa T).length=0:=by
      unfold dD;rw[b,f,l,g,m,E,UX (show ¬(0:Int)<(d.XV.length:Int) by omega)];simp
     rw[k,i];exact⟨rfl,fun _=>G u (by rw[(jV (dr l)).1,(jV (dr l)).2.1];decide) rfl⟩
  ·have g:(t.s.toList == [36,118])=false:=(by rw[cG f];decide);have m:(t.s.toList == [36,100])=false:=(by rw[cG f];decide);have K:cd t.s=true:=(by rw[(jV (dr f)).2.2];decide);have k:ay d t.s=(match d.XV.getLast? with | none=>(9,d) | some p=>(0,cQ d p)):=by
    unfold ay;rw[b,f,To (by simp),Tq rfl];rfl
   cases A:d.XV.getLast? with
   | none =>
    have J:d.XV.length=0:=(by rw[List.getLast?_eq_none_iff]at A;rw[A];rfl);have i:dD T (aa T) t.s (aa T).length=9:=by
     unfold dD;rw[b,f,g,m,E,J];simp
    rw[k,i,A];exact⟨rfl,fun h=>by cases h⟩
   | some q =>
    have C:d.XV≠[]:=fun e=>by rw[e]at A;cases A
    have Y:d.XV=d.XV.dropLast++[q]:=by
     have:=V4 C;rw[VB C]at A;cases A
     exact this.symm
    have J:0<d.XV.length:=Wh.2 C;have i:dD T (aa T) t.s (aa T).length=0:=by
     unfold dD;rw[b,f,g,m,E,show((d.XV.length:Int)==0)=false by simp;omega];simp
    rw[k,i,A];refine⟨rfl,fun _=>?_⟩;obtain⟨y,D⟩:=nz (T:=T) (t:=t) M K;have P:∀o,aR o t.s=o-1:=fun o=>by rw[sJ (dr f)];rfl
    obtain⟨V,n2,n3⟩:=QK (S:=aa T) (s:=⟨fA T,T.length+1,T.length+1,t.s⟩) (U:=T++[t]) g (by show(t.s.toList==_)=false;rw[cG f];decide) (by show(t.s.toList==_)=false;rw[cG f];decide);have Z:=Fv (S:=aa T) (s:=⟨fA T,T.length+1,T.length+1,t.s⟩) (U:=T++[t]) (by show(aA t.s||aH t.s)=false;rw[(jV (dr f)).1,(jV (dr f)).2.1];decide);have H:=I.act;have hy:=I.typ;rw[Y,Ug]at H hy;have L:(cQ d q).XA=d.XA/\(cQ d q).XB=d.XB/\(cQ d q).XH=d.XH.take q.1/\(cQ d q).XK=d.XK.take q.2/\(cQ d q).XV=d.XV.dropLast/\(cQ d q).XS=d.XS/\(cQ d q).Xy=d.Xy/\(cQ d q).XC=d.XC/\(cQ d q).XG=d.XG:=by
     unfold cQ dw;split <;> exact⟨rfl,rfl,rfl,rfl,rfl,rfl,rfl,rfl,rfl⟩
    obtain⟨d1,d2,d3,d4,d5,d6,d7,d8,d9⟩:=L;simp only;rw[y];refine⟨⟨?_,fun x=>?_,?_,?_⟩,uK.none D (by rw[d6];exact hk) (by rw[d7];exact F) (by rw[d8];exact B) ?_⟩
    ·rw[d1,cN,fJ (fun j r=>wF w j r),n2,TV];exact I.con
    ·rw[d2,cN,fJ (fun j r=>pT w j r),V,TV];exact I.var x
    ·rw[d3,d5];exact H.pop ⟨fA T,T.length+1,T.length+1,t.s⟩ P (fun j r=>pT w j r)
    ·rw[d4,d5];exact hy.pop ⟨fA T,T.length+1,T.length+1,t.s⟩ P (fun j r=>wH R j r)
    ·rw[d9,y,vh _ w,Z,TV];exact O
 ·have g:(t.s.toList == [36,118])=false:=by rw[cG b];decide
  have K:cd t.s=true:=by rw[(jV (dr b)).2.2];decide
  have k:ay d t.s=(0,{ d with XV:=d.XV++[(d.XH.length,d.XK.length)],rbl:=d.rbl++[d.XP.length] }):=by
   unfold ay;rw[b,Tq rfl]
  have i:dD T (aa T) t.s (aa T).length=0:=by
   unfold dD;rw[b];simp
  rw[k,i];refine⟨rfl,fun _=>?_⟩;obtain⟨y,D⟩:=nz (T:=T) (t:=t) M K;have P:∀o,aR o t.s=o+1:=fun o=>by rw[sJ (dr b)];rfl
  obtain⟨V,n2,n3⟩:=QK (S:=aa T) (s:=⟨fA T,T.length+1,T.length+1,t.s⟩) (U:=T++[t]) g (by show(t.s.toList==_)=false;rw[cG b];decide) (by show(t.s.toList==_)=false;rw[cG b];decide);have Z:=Fv (S:=aa T) (s:=⟨fA T,T.length+1,T.length+1,t.s⟩) (U:=T++[t]) (by show(aA t.s||aH t.s)=false;rw[(jV (dr b)).1,(jV (dr b)).2.1];decide);simp only;rw[y];refine⟨⟨?_,fun x=>?_,?_,?_⟩,uK.none D hk F B ?_⟩
  ·rw[cN,fJ (fun j r=>wF w j r),n2,TV];exact I.con
  ·rw[cN,fJ (fun j r=>pT w j r),V,TV];exact I.var x
  ·simp only[List.map_append,List.map_cons,List.map_nil];exact I.act.push ⟨fA T,T.length+1,T.length+1,t.s⟩ P (fun j r=>pT w j r) V
  ·simp only[List.map_append,List.map_cons,List.map_nil];exact I.typ.push ⟨fA T,T.length+1,T.length+1,t.s⟩ P (fun j r=>wH R j r) n3
  ·rw[y,vh _ w,Z,TV];exact O
theorem N8(z:iY T (aa T) (aa T).length)(A:mT T (aa T) (aa T).length)(I:tx T (aa T) d)(y:fA T+1=T.length)(u:d.Xy=[])(j:d.XC=false)(D:d.XG=kg T (aa T)++[tS T (fA T)])(B:((tS T (fA T)).toList == [])=false)(r:ii (tS T (fA T)) ⟨#[36]⟩=false) :
  ee (T++[t]) (fA T)=(t.s,T.length+1)/\(if(aA t.s||aH t.s)=true then(0:Int) else 14)=(aJ d t.s).1/\((aJ d t.s).1=0->tx (T++[t]) (aa (T++[t])) (aJ d t.s).2/\uK (T++[t]) (aJ d t.s).2):=by
 have i:ee (T++[t]) (fA T)=(t.s,T.length+1):=by
  unfold ee;rw[fX T [t] _ (by omega),r,To (by simp;omega),y,oj,<-y]
 have g:∀{n:Int},fm t.s.toList n->(aA t.s||aH t.s)=true->tx (T++[t]) (aa (T++[t])) { d with XS:=n }/\uK (T++[t]) { d with XS:=n }:=fun {n} c b=>by
  obtain⟨w,k⟩:=lW (T:=T) (t:=t) c.dep.2.2;have C:eF (T++[t]) (T.length+1) (T++[t]).length=[]:=by rw[ma];simp
  have x:tS (T++[t]) (fA (T++[t]))=tS T (fA T):=by rw[k,fX T [t] _ (by omega)]
  refine⟨by rw[w];exact I.same z A rfl rfl rfl rfl rfl,uK.body t.s (T.length+1) [] (by rw[k];exact i) (by rw[k];omega) (by simp) c C (by rw[jt];exact j) u (fun h=>by rw[show({ d with XS:=n }:Db).XC=d.XC from rfl,j]at h;cases h) ?_ (fun _=>by rw[x];exact B)⟩;rw[w,b,Tq rfl,rA z,x];exact D
 refine⟨i,?_⟩;unfold aJ;cases l:(t.s.toList == [36,102])
 ·cases m:(t.s.toList == [36,101])
  ·cases o:(t.s.toList == [36,97])
   ·cases q:(t.s.toList == [36,112])
    ·have b:(aA t.s||aH t.s)=false:=(by unfold aA aH;rw[l,m,o,q];rfl);rw[b];exact⟨rfl,fun h=>by simp at h⟩
    ·have b:(aA t.s||aH t.s)=true:=(by unfold aA aH;rw[q];simp);have c:=fm.p;rw[<-dr q]at c;rw[b];exact⟨rfl,fun _=>g c b⟩
   ·have b:(aA t.s||aH t.s)=true:=(by unfold aA aH;rw[o];simp);have c:=fm.a;rw[<-dr o]at c;rw[b];exact⟨rfl,fun _=>g c b⟩
  ·have b:(aA t.s||aH t.s)=true:=(by unfold aA aH;rw[m];simp);have c:=fm.e;rw[<-dr m]at c;rw[b];exact⟨rfl,fun _=>g c b⟩
 ·have b:(aA t.s||aH t.s)=true:=by unfold aA aH;rw[l];simp
  have c:=fm.f;rw[<-dr l]at c;rw[b];exact⟨rfl,fun _=>g c b⟩
end
end Go.Proofs.YtnbhnocdhbcbcaaGreat
