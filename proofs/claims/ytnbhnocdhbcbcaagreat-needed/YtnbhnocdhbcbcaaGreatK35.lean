import Derived.Test.YtnbhnocdhbcbcaaGreatK34
namespace Go.Proofs.YtnbhnocdhbcbcaaGreat
open Go.RowKit Tryz
open Value IntKind Ending
set_option maxHeartbeats 0
variable{w n:Nat}{x:List Bool}{b:St}(f:List Bool)(S H:Nat)
def nP(L:List Rw)(n:Nat):Bool:=(eO L n==4)||(eO L n==5)
def pI(x:kD):Option Nat:=if(x.XU==2)=true then some x.XA else none
def o8(l:List St)(n:Nat):Xv:=match l[n]? with
 | some s=>(dC l n s).1.filterMap pI
 | none=>[]
def qj(ms:List Bool)(m:Nat):List Bool:=if m<ms.length then ms.set m true else ms
def qL(ms:List Bool)(ns:Xv):List Bool:=ns.foldl qj ms
def mS(l:List St)(L:List Rw)(ms:List Bool)(k:Nat):List Bool:=if ms.getD k false=true/\nP L k=true then qL ms (o8 l k) else ms
def lr(l:List St)(L:List Rw):Nat->List Bool->List Bool
 | 0,ms=>ms
 | k+1,ms=>lr l L k (mS l L ms k)
def mG(l:List St)(L:List Rw)(a:Nat):List Bool:=lr l L (a+1) ((List.replicate l.length false).set a true)
theorem Aa:(qj f H).length=f.length:=by
 unfold qj;split
 ·rw[Um]
 ·rfl
theorem Ka:(qj f S).getD H false=true ↔ f.getD H false=true∨(H=S/\S<f.length):=by
 unfold qj;split
 ·next h =>
  rw[To,UA,To];by_cases e:S=H
  ·subst e;rw[Tr rfl,Tr h];exact⟨fun _=>TE ⟨rfl,h⟩,fun _=>rfl⟩
  ·rw[Tp e];exact⟨TH,fun h=>h.elim id (fun h=>absurd h.1.symm e)⟩
 ·next h=>exact⟨TH,fun a=>a.elim id (fun a=>absurd a.2 h)⟩
theorem Kb(b:Xv):∀a,(qL a b).length=a.length:=by
 induction b with
 | nil=>intro a;rfl
 | cons m r c=>intro a;show(qL (qj a m) r).length=_;rw[c,Aa]
theorem rC(d:Xv):∀a q,(qL a d).getD q false=true ↔ a.getD q false=true∨(q∈d/\q<a.length):=by
 induction d with
 | nil=>intro a q;exact⟨TH,fun h=>h.elim id (fun h=>by cases h.1)⟩
 | cons m r e =>
  intro a q
  show(qL (qj a m) r).getD q false=true ↔ _
  rw[e,Ka,Aa];constructor
  ·rintro ((h | ⟨rfl,h⟩) | ⟨b,c⟩)
   ·exact TH h
   ·exact TE ⟨Ue,h⟩
   ·exact TE ⟨Ud _ b,c⟩
  ·rintro (h | ⟨b,c⟩)
   ·exact TH (TH h)
   ·rcases Ub.1 b with rfl | b
    ·exact TH (TE ⟨rfl,c⟩)
    ·exact TE ⟨b,c⟩
section
variable {l:List St} {L:List Rw}
theorem yn:(mS l L f H).length=f.length:=by
 unfold mS;split
 ·exact Kb _ _
 ·rfl
theorem KH(k:Nat):∀a,(lr l L k a).length=a.length:=by
 induction k with
 | zero=>intro a;rfl
 | succ k b=>intro a;rw[lr,b,yn]
theorem xX(h:n∈o8 l w):n<w:=by
 unfold o8 at h;split at h
 ·next s f =>
  obtain⟨x,d,e⟩:=VM.1 h;unfold pI at e;split at e
  ·next a =>
   obtain⟨i,c,b⟩:=Uy d;have a:x.XU=2:=(by simpa using a);rcases un l w s i x (by rw[Tn c,b]) with g | ⟨g,-⟩ | ⟨-,g⟩
   ·omega
   ·omega
   ·rw[<-UQ e];exact Is g
  ·cases e
 ·cases h
def RP(l:List St)(L:List Rw)(a m:Nat):Prop:=∀P:Nat->Prop,P a->(∀t m:Nat,P t->nP L t=true->m∈o8 l t->P m)->P m
theorem RP.step{t:Nat}(h:RP l L w t)(c:nP L t=true)(d:n∈o8 l t):RP l L w n:=fun P b a=>a t n (h P b a) c d
theorem Ga(h:∀m,x.getD m false=true->RP l L w m):∀m,(mS l L x H).getD m false=true->RP l L w m:=fun m a=>by
 unfold mS at a;split at a
 ·next c =>
  rcases(rC _ _ _).1 a with b | ⟨b,-⟩
  ·exact h m b
  ·exact(h H c.1).step c.2 b
 ·exact h m a
theorem KI(k:Nat):∀a,(∀m,a.getD m false=true->RP l L w m)->∀m,(lr l L k a).getD m false=true->RP l L w m:=by
 induction k with
 | zero=>intro a h;exact h
 | succ k b=>intro a h;rw[lr];exact b _ (Ga k h)
theorem DT(h:f.getD H false=true):(mS l L f S).getD H false=true:=by
 unfold mS;split
 ·exact(rC _ _ _).2 (TH h)
 ·exact h
theorem yo(k:Nat):∀a m,a.getD m false=true->(lr l L k a).getD m false=true:=by
 induction k with
 | zero=>intro a m h;exact h
 | succ k b=>intro a m h;rw[lr];exact b _ m (DT a k m h)
theorem Ai(h:S<=H):(mS l L f S).getD H false=f.getD H false:=by
 rw[UL];unfold mS;split
 ·rw[rC];exact⟨fun a=>a.elim id (fun a=>by have:=xX a.1;omega),TH⟩
 ·exact Iff.rfl
theorem NQ(k:Nat):∀a m,k<=m->(lr l L k a).getD m false=a.getD m false:=by
 induction k with
 | zero=>intro a m _;rfl
 | succ k b=>intro a m h;rw[lr,b _ m (by omega),Ai a k m (by omega)]
theorem NP(k:Nat):∀a,∀t,t<k->k<=a.length->(lr l L k a).getD t false=true->nP L t=true->∀m∈o8 l t,(lr l L k a).getD m false=true:=by
 induction k with
 | zero=>intro a t h;omega
 | succ k f =>
  intro a t i g b d m c;rw[lr]at b ⊢;by_cases e:t<k
  ·exact f _ t e (by rw[yn];omega) b d m c
  ·have e:t=k:=(by omega);subst e;rw[NQ t _ t (Tq _),Ai a t t (Tq _)]at b;apply yo;unfold mS;rw[Tr ⟨b,d⟩,rC];exact TE ⟨c,by have:=xX c;omega⟩
theorem IQ(d:w<l.length)(m:Nat):(mG l L w).getD m false=true ↔ RP l L w m:=by
 have b:∀m,((List.replicate l.length false).set w true).getD m false=true ↔ m=w:=fun m=>by
  rw[To,UA];by_cases e:w=m
  ·subst e;rw[Tr rfl,Tr (by rw[Wz];exact d)];exact⟨fun _=>rfl,fun _=>rfl⟩
  ·rw[Tp e,UP];constructor
   ·intro h;split at h <;> cases h
   ·intro h;exact absurd h.symm e
 constructor
 ·exact KI _ _ (fun m f=>by rw[(b m).1 f];exact fun P h _=>h) m
 ·intro h;have a:∀m,RP l L w m->m<=w/\(mG l L w).getD m false=true:=fun m h=>by
   refine h (fun m=>m<=w/\(mG l L w).getD m false=true) ⟨Tq _,yo _ _ _ ((b w).2 rfl)⟩ (fun t m i g c=>?_);have:=xX c;exact⟨by omega,NP (w+1) _ t (by omega) (by rw[Um,Wz];omega) i.2 g m c⟩
  exact(a m h).2
theorem RP.le(h:RP l L w n):n<=w:=h (fun n=>n<=w) (Tq _) (fun t n b _ a=>by have:=xX a;omega)
end
def RQ(l:List St)(L:List Rw)(a n:Nat):Bool:=(mG l L a).getD n false&&(eO L n==1)
def RT(l:List St)(L:List Rw)(a n:Nat):Bool:=(mG l L a).getD n false&&((eO L n==2)||(eO L n==3))
def pn(l:List St)(L:List Rw)(a:Nat):Xt×Xt:=(((List.range l.length).filter (RQ l L a)).map (qi l),((List.range l.length).filter (RT l L a)).map (qi l))
section
variable {T:List Tk} {d:Db} {PS:List (jP×Hd)} {RS:List iq}
theorem gB.pst(R:gB T d)(F:rW d)(a:∀q,q<T.length->aY T (aa T) q=0)(Q:sB T d)(c:PS.map (·.1)=(List.range (aa T).length).map (nO (aa T) (DJ T (aa T))))(f:d.XQ[w]?=some b)(g:b.XU=5):(hQ PS (aw (aa T) w)).1.st=(dC d.XQ w b).1.map (rr T (aa T)):=by
 have m:=(TA.1 f).1;have l:=R.hel.at_ m;obtain⟨j,-,-⟩:=R.sget f;have k:my (aa T) (aw (aa T) w)=true:=by unfold my;rw[<-(mh j).2,g];rfl
 have i:(hQ PS (aw (aa T) w)).1=nO (aa T) (DJ T (aa T)) (aw (aa T) w):=by
  have:(PS.map (·.1))[aw (aa T) w]?=((List.range (aa T).length).map (nO (aa T) (DJ T (aa T))))[aw (aa T) w]?:=by rw[c]
  rw[Ua,Ua,Vg l]at this;unfold hQ;rw[To];cases e:PS[aw (aa T) w]? with
  | none=>rw[e]at this;cases this
  | some x=>rw[e]at this;exact UQ this
 rw[i];unfold nO;rw[Tr k,R.prf F a Q f g];rfl
theorem ux{l:List St}(g:l[w]?=some b):((fj l w).XF=4∨(fj l w).XF=5->b.XU=5)/\((fj l w).XF==1)=(b.XU==4)/\(((fj l w).XF==2)||((fj l w).XF==3))=((b.XU==5) && !(((fj l w).XF==4)||((fj l w).XF==5))):=by
 have e:fj l w=if(b.XU==4)=true then⟨b.XV,1,0,ln⟩ else if(b.XU==5)=true then dr l w b (bP l w) else qs:=by unfold fj lp;rw[g]
 by_cases d:b.XU=4
 ·have c:(b.XU==4)=true:=by rw[d];rfl
  have a:(b.XU==5)=false:=by rw[d];rfl
  rw[c,Tr rfl]at e;rw[e,c,a];exact⟨(fun h=>by rcases h with h | h <;> cases h),rfl,rfl⟩
 ·have c:(b.XU==4)=false:=TU.2 d;rw[c,Tp (by simp)]at e;by_cases f:b.XU=5
  ·have a:(b.XU==5)=true:=(by rw[f];rfl);rw[a,Tr rfl]at e;rw[e,c,a];rcases xQ l w b (bP l w) with h | h | h | h <;> (rw[h];exact⟨fun _=>f,by decide,by decide⟩)
  ·have a:(b.XU==5)=false:=TU.2 f;rw[a,Tp (by simp)]at e;rw[e,c,a];exact⟨(fun h=>by rcases h with h | h <;> cases h),rfl,rfl⟩
theorem gB.rea(R:gB T d)(F:rW d)(a:∀q,q<T.length->aY T (aa T) q=0)(Q:sB T d)(f:PS.map (·.1)=(List.range (aa T).length).map (nO (aa T) (DJ T (aa T))))(H:oJ (aa T) PS ((List.range (aa T).length).map (mJ T (aa T) (Ap T (aa T)))) RS (aa T).length)(B:w<d.XQ.length) :
  (∀n,n<d.XQ.length->nP (bP d.XQ d.XQ.length) n=cM RS (aw (aa T) n))/\∀k,eJ PS RS (aw (aa T) w) k ↔ ∃n,n<d.XQ.length/\k=aw (aa T) n/\RP d.XQ (bP d.XQ d.XQ.length) w n:=by
 have G:=R.rows F a Q f H;have D:∀n,n<d.XQ.length->eO (bP d.XQ d.XQ.length) n=(fj d.XQ n).XF:=fun n b=>tu d.XQ b;have j:∀n,n<d.XQ.length->nP (bP d.XQ d.XQ.length) n=cM RS (aw (aa T) n):=fun n b=>by
  unfold nP cM;rw[D n b,G n b];rfl
 have A:∀n,n<d.XQ.length->cM RS (aw (aa T) n)=true->∃s,d.XQ[n]?=some s/\s.XU=5:=fun n b h=>by
  obtain⟨s,g,-⟩:=R.get b;refine⟨s,g,(ux g).1 ?_⟩;rw[<-j n b]at h;unfold nP at h;rw[D n b,Ul,Vb,Vb]at h;exact h
 refine⟨j,fun k=>⟨fun h=>?_,?_⟩⟩
 ·refine h (fun k=>∃n,n<d.XQ.length/\k=aw (aa T) n/\RP d.XQ (bP d.XQ d.XQ.length) w n) ⟨w,B,rfl,fun P h _=>h⟩ (fun t k i r o p c=>?_);obtain⟨n,b,rfl,K⟩:=r;obtain⟨s,g,u⟩:=A n b o;rw[R.pst F a Q f g u]at p c;rw[TT]at p;rw[mK _ _ p]at c;have I:=un d.XQ n s i _ (Tn p);unfold rr at c;rcases I with l | ⟨l,-⟩ | ⟨l,J⟩
  ·rw[Tr l]at c;simp only at c;omega
  ·rw[l,Tp (by omega),Tp (by omega)]at c;simp only at c;omega
  ·rw[l,Tp (by omega),Tr rfl]at c;simp only at c;refine⟨_,J.lt,by omega,K.step (by rw[j n b];exact o) ?_⟩;unfold o8;rw[g];refine VM.2 ⟨_,TP p,?_⟩;unfold pI;rw[Tr (by rw[l];rfl)]
 ·rintro ⟨n,b,rfl,h⟩;have:=h (fun m=>m<d.XQ.length/\eJ PS RS (aw (aa T) w) (aw (aa T) m)) ⟨B,eJ.self⟩ (fun t m r z v=>?_)
  ·exact this.2
  ·have y:m<d.XQ.length:=(by have:=xX v;omega);refine⟨y,?_⟩;rw[j t r.1]at z;obtain⟨s,g,u⟩:=A t r.1 z;unfold o8 at v;rw[g]at v;obtain⟨x,L,e⟩:=VM.1 v;unfold pI at e;split at e
   ·next o =>
    have o:x.XU=2:=(by simpa using o);obtain⟨i,C,E⟩:=Uy L;have e:=UQ e;refine r.2.step z (i:=i) (by rw[R.pst F a Q f g u,TT];exact C) ?_;rw[R.pst F a Q f g u,mK _ _ C,E];unfold rr;rw[o,Tp (by omega),Tr rfl,e]
   ·cases e
theorem gB.uses(R:gB T d)(F:rW d)(c:∀q,q<T.length->aY T (aa T) q=0)(Q:sB T d)(y:PS.map (·.1)=(List.range (aa T).length).map (nO (aa T) (DJ T (aa T))))(G:oJ (aa T) PS ((List.range (aa T).length).map (mJ T (aa T) (Ap T (aa T)))) RS (aa T).length)(b:w<d.XQ.length)(H:∀k,x.getD k false=true ↔ eJ PS RS (aw (aa T) w) k) :
  Jm T (aa T) x (aw (aa T) w+1)=(pn d.XQ (bP d.XQ d.XQ.length) w).1/\Cq T (aa T) RS x (aw (aa T) w+1)=(pn d.XQ (bP d.XQ d.XQ.length) w).2:=by
 obtain⟨A,z⟩:=R.rea F c Q y G b;have J:=R.hel.at_ b;have B:∀n,n<d.XQ.length->x.getD (aw (aa T) n) false=(mG d.XQ (bP d.XQ d.XQ.length) w).getD n false:=fun n a=>by
  rw[UL,H,z,IQ b];constructor
  ·rintro ⟨m,u,e,h⟩;rw[R.inj a u e];exact h
  ·intro h;exact⟨n,a,rfl,h⟩
 have g:∀n,n<d.XQ.length->(mG d.XQ (bP d.XQ d.XQ.length) w).getD n false=true->aw (aa T) n<aw (aa T) w+1:=fun n a h=>by
  rw[IQ b]at h;have:=h.le;by_cases e:n=w
  ·rw[e];omega
  ·have:=ge (S:=aa T) (n:=n) (a:=w) (by omega) (by rw[<-R.hel.len];exact b);omega
 have f:∀n,n<d.XQ.length->qi d.XQ n=bS T (aq (aa T) (aw (aa T) n)):=fun n a=>by
  obtain⟨s,l,-,D,-⟩:=R.get a;unfold qi;rw[To,l];exact D
 have i:∀(L:Xv),(∀n∈L,n<d.XQ.length)->(L.map (aw (aa T))).map (fun t=>bS T (aq (aa T) t))=L.map (qi d.XQ):=fun L E=>by
  rw[List.map_map];apply VH;intro n a;exact(f n (E n a)).symm
 have C:∀(p:Nat->Bool) (q:Nat->Bool),(∀j,p j=true->kF (aa T) j=true)->(∀n,n<d.XQ.length->q n=(decide (aw (aa T) n<aw (aa T) w+1)&&p (aw (aa T) n)))->((List.range (aw (aa T) w+1)).filter p).map (fun t=>bS T (aq (aa T) t))=((List.range d.XQ.length).filter q).map (qi d.XQ):=fun p q I v=>by
  rw[<-pC (n:=(aa T).length) (by omega) p,<-rF (m:=d.XQ.length) (q:=q) R.hel.len (fun j _ h=>I j (by rw[TN]at h;exact h.2)) v];exact i _ (fun n a=>TG.1 (Uk.1 a).1)
 unfold Jm Cq pn;refine⟨C _ _ (fun j h=>?_) (fun n a=>?_),C _ _ (fun j h=>?_) (fun n a=>?_)⟩
 ·unfold R9 at h;rw[TN]at h;unfold kF;rw[h.2];simp
 ·obtain⟨s,l,r,-,-⟩:=R.get a;unfold RQ R9;rw[B n a,tu d.XQ a,(ux l).2.1,(mh r).1];cases e:(mG d.XQ (bP d.XQ d.XQ.length) w).getD n false
  ·simp
  ·rw[UR (g n a e)];simp
 ·unfold QV at h;rw[TN,TN]at h;unfold kF;rw[h.2.1];simp
 ·obtain⟨s,l,r,-,-⟩:=R.get a;have o:=A n a;unfold nP at o;rw[tu d.XQ a]at o;unfold RT QV;rw[B n a,tu d.XQ a,(ux l).2.2,(mh r).2,o];cases e:(mG d.XQ (bP d.XQ d.XQ.length) w).getD n false
  ·simp
  ·rw[UR (g n a e)];simp
end
end Go.Proofs.YtnbhnocdhbcbcaaGreat
