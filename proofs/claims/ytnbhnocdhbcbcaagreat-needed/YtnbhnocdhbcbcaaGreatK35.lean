import Derived.Test.YtnbhnocdhbcbcaaGreatK34
namespace Go.Proofs.YtnbhnocdhbcbcaaGreat
open Go.RowKit Tryz
open Value IntKind Ending
set_option maxHeartbeats 0
variable{w n:Nat}{x:List Bool}{b:St}(f:List Bool)(S H:Nat)
def nP(L:List Rw)(n:Nat):Bool:=(eN L n==4)||(eN L n==5)
def pI(x:kD):Option Nat:=if(x.Yd==2)=true then some x.XN else none
def o8(l:List St)(n:Nat):Xv:=match l[n]? with
 | some s=>(dB l n s).1.filterMap pI
 | none=>[]
def qj(ms:List Bool)(m:Nat):List Bool:=if m<ms.length then ms.set m true else ms
def qM(ms:List Bool)(ns:Xv):List Bool:=ns.foldl qj ms
def mR(l:List St)(L:List Rw)(ms:List Bool)(k:Nat):List Bool:=if ms.getD k false=true/\nP L k=true then qM ms (o8 l k) else ms
def lr(l:List St)(L:List Rw):Nat->List Bool->List Bool
 | 0,ms=>ms
 | k+1,ms=>lr l L k (mR l L ms k)
def mF(l:List St)(L:List Rw)(a:Nat):List Bool:=lr l L (a+1) ((List.replicate l.length false).set a true)
theorem Aa:(qj f H).length=f.length:=by
 unfold qj;split
 ·rw[Uz]
 ·rfl
theorem Kd:(qj f S).getD H false=true ↔ f.getD H false=true∨(H=S/\S<f.length):=by
 unfold qj;split
 ·next h =>
  rw[TG,UN,TG];by_cases e:S=H
  ·subst e;rw[TJ rfl,TJ h];exact⟨fun _=>TU ⟨rfl,h⟩,fun _=>rfl⟩
  ·rw[TH e];exact⟨TZ,fun h=>h.elim id (fun h=>absurd h.1.symm e)⟩
 ·next h=>exact⟨TZ,fun a=>a.elim id (fun a=>absurd a.2 h)⟩
theorem Ke(b:Xv):∀a,(qM a b).length=a.length:=by
 induction b with
 | nil=>intro a;rfl
 | cons m r c=>intro a;show(qM (qj a m) r).length=_;rw[c,Aa]
theorem rD(d:Xv):∀a q,(qM a d).getD q false=true ↔ a.getD q false=true∨(q∈d/\q<a.length):=by
 induction d with
 | nil=>intro a q;exact⟨TZ,fun h=>h.elim id (fun h=>by cases h.1)⟩
 | cons m r e =>
  intro a q
  show(qM (qj a m) r).getD q false=true ↔ _
  rw[e,Kd,Aa];constructor
  ·rintro ((h | ⟨rfl,h⟩) | ⟨b,c⟩)
   ·exact TZ h
   ·exact TU ⟨Ur,h⟩
   ·exact TU ⟨Uq _ b,c⟩
  ·rintro (h | ⟨b,c⟩)
   ·exact TZ (TZ h)
   ·rcases Un.1 b with rfl | b
    ·exact TZ (TU ⟨rfl,c⟩)
    ·exact TU ⟨b,c⟩
section
variable {l:List St} {L:List Rw}
theorem yn:(mR l L f H).length=f.length:=by
 unfold mR;split
 ·exact Ke _ _
 ·rfl
theorem KL(k:Nat):∀a,(lr l L k a).length=a.length:=by
 induction k with
 | zero=>intro a;rfl
 | succ k b=>intro a;rw[lr,b,yn]
theorem xX(h:n∈o8 l w):n<w:=by
 unfold o8 at h;split at h
 ·next s f =>
  obtain⟨x,d,e⟩:=V3.1 h;unfold pI at e;split at e
  ·next a =>
   obtain⟨i,c,b⟩:=UL d;have a:x.Yd=2:=(by simpa using a);rcases un l w s i x (by rw[TF c,b]) with g | ⟨g,-⟩ | ⟨-,g⟩
   ·omega
   ·omega
   ·rw[<-U5 e];exact Iz g
  ·cases e
 ·cases h
def RP(l:List St)(L:List Rw)(a m:Nat):Prop:=∀P:Nat->Prop,P a->(∀t m:Nat,P t->nP L t=true->m∈o8 l t->P m)->P m
theorem RP.step{t:Nat}(h:RP l L w t)(c:nP L t=true)(d:n∈o8 l t):RP l L w n:=fun P b a=>a t n (h P b a) c d
theorem Gh(h:∀m,x.getD m false=true->RP l L w m):∀m,(mR l L x H).getD m false=true->RP l L w m:=fun m a=>by
 unfold mR at a;split at a
 ·next c =>
  rcases(rD _ _ _).1 a with b | ⟨b,-⟩
  ·exact h m b
  ·exact(h H c.1).step c.2 b
 ·exact h m a
theorem KM(k:Nat):∀a,(∀m,a.getD m false=true->RP l L w m)->∀m,(lr l L k a).getD m false=true->RP l L w m:=by
 induction k with
 | zero=>intro a h;exact h
 | succ k b=>intro a h;rw[lr];exact b _ (Gh k h)
theorem DZ(h:f.getD H false=true):(mR l L f S).getD H false=true:=by
 unfold mR;split
 ·exact(rD _ _ _).2 (TZ h)
 ·exact h
theorem yo(k:Nat):∀a m,a.getD m false=true->(lr l L k a).getD m false=true:=by
 induction k with
 | zero=>intro a m h;exact h
 | succ k b=>intro a m h;rw[lr];exact b _ m (DZ a k m h)
theorem Ai(h:S<=H):(mR l L f S).getD H false=f.getD H false:=by
 rw[UY];unfold mR;split
 ·rw[rD];exact⟨fun a=>a.elim id (fun a=>by have:=xX a.1;omega),TZ⟩
 ·exact Iff.rfl
theorem NS(k:Nat):∀a m,k<=m->(lr l L k a).getD m false=a.getD m false:=by
 induction k with
 | zero=>intro a m _;rfl
 | succ k b=>intro a m h;rw[lr,b _ m (by omega),Ai a k m (by omega)]
theorem NR(k:Nat):∀a,∀t,t<k->k<=a.length->(lr l L k a).getD t false=true->nP L t=true->∀m∈o8 l t,(lr l L k a).getD m false=true:=by
 induction k with
 | zero=>intro a t h;omega
 | succ k f =>
  intro a t i g b d m c;rw[lr]at b ⊢;by_cases e:t<k
  ·exact f _ t e (by rw[yn];omega) b d m c
  ·have e:t=k:=(by omega);subst e;rw[NS t _ t (TI _),Ai a t t (TI _)]at b;apply yo;unfold mR;rw[TJ ⟨b,d⟩,rD];exact TU ⟨c,by have:=xX c;omega⟩
theorem IU(d:w<l.length)(m:Nat):(mF l L w).getD m false=true ↔ RP l L w m:=by
 have b:∀m,((List.replicate l.length false).set w true).getD m false=true ↔ m=w:=fun m=>by
  rw[TG,UN];by_cases e:w=m
  ·subst e;rw[TJ rfl,TJ (by rw[WN];exact d)];exact⟨fun _=>rfl,fun _=>rfl⟩
  ·rw[TH e,U4];constructor
   ·intro h;split at h <;> cases h
   ·intro h;exact absurd h.symm e
 constructor
 ·exact KM _ _ (fun m f=>by rw[(b m).1 f];exact fun P h _=>h) m
 ·intro h;have a:∀m,RP l L w m->m<=w/\(mF l L w).getD m false=true:=fun m h=>by
   refine h (fun m=>m<=w/\(mF l L w).getD m false=true) ⟨TI _,yo _ _ _ ((b w).2 rfl)⟩ (fun t m i g c=>?_);have:=xX c;exact⟨by omega,NR (w+1) _ t (by omega) (by rw[Uz,WN];omega) i.2 g m c⟩
  exact(a m h).2
theorem RP.le(h:RP l L w n):n<=w:=h (fun n=>n<=w) (TI _) (fun t n b _ a=>by have:=xX a;omega)
end
def R6(l:List St)(L:List Rw)(a n:Nat):Bool:=(mF l L a).getD n false&&(eN L n==1)
def R8(l:List St)(L:List Rw)(a n:Nat):Bool:=(mF l L a).getD n false&&((eN L n==2)||(eN L n==3))
def pn(l:List St)(L:List Rw)(a:Nat):Xt×Xt:=(((List.range l.length).filter (R6 l L a)).map (qi l),((List.range l.length).filter (R8 l L a)).map (qi l))
section
variable {T:List Tk} {d:Db} {PS:List (jP×Hd)} {RS:List il}
theorem gB.pst(R:gB T d)(F:rW d)(a:∀q,q<T.length->aY T (aa T) q=0)(Q:sB T d)(c:PS.map (·.1)=(List.range (aa T).length).map (nO (aa T) (DO T (aa T))))(f:d.Ya[w]?=some b)(g:b.Yd=5):(g9 PS (aw (aa T) w)).1.st=(dB d.Ya w b).1.map (rs T (aa T)):=by
 have m:=(TT.1 f).1;have l:=R.hel.at_ m;obtain⟨j,-,-⟩:=R.sget f;have k:mx (aa T) (aw (aa T) w)=true:=by unfold mx;rw[<-(mg j).2,g];rfl
 have i:(g9 PS (aw (aa T) w)).1=nO (aa T) (DO T (aa T)) (aw (aa T) w):=by
  have:(PS.map (·.1))[aw (aa T) w]?=((List.range (aa T).length).map (nO (aa T) (DO T (aa T))))[aw (aa T) w]?:=by rw[c]
  rw[Uo,Uo,Vu l]at this;unfold g9;rw[TG];cases e:PS[aw (aa T) w]? with
  | none=>rw[e]at this;cases this
  | some x=>rw[e]at this;exact U5 this
 rw[i];unfold nO;rw[TJ k,R.prf F a Q f g];rfl
theorem ux{l:List St}(g:l[w]?=some b):((fh l w).XS=4∨(fh l w).XS=5->b.Yd=5)/\((fh l w).XS==1)=(b.Yd==4)/\(((fh l w).XS==2)||((fh l w).XS==3))=((b.Yd==5) && !(((fh l w).XS==4)||((fh l w).XS==5))):=by
 have e:fh l w=if(b.Yd==4)=true then⟨b.Ye,1,0,lm⟩ else if(b.Yd==5)=true then dq l w b (bQ l w) else qs:=by unfold fh ln;rw[g]
 by_cases d:b.Yd=4
 ·have c:(b.Yd==4)=true:=by rw[d];rfl
  have a:(b.Yd==5)=false:=by rw[d];rfl
  rw[c,TJ rfl]at e;rw[e,c,a];exact⟨(fun h=>by rcases h with h | h <;> cases h),rfl,rfl⟩
 ·have c:(b.Yd==4)=false:=Ui.2 d;rw[c,TH (by simp)]at e;by_cases f:b.Yd=5
  ·have a:(b.Yd==5)=true:=(by rw[f];rfl);rw[a,TJ rfl]at e;rw[e,c,a];rcases xQ l w b (bQ l w) with h | h | h | h <;> (rw[h];exact⟨fun _=>f,by decide,by decide⟩)
  ·have a:(b.Yd==5)=false:=Ui.2 f;rw[a,TH (by simp)]at e;rw[e,c,a];exact⟨(fun h=>by rcases h with h | h <;> cases h),rfl,rfl⟩
theorem gB.rea(R:gB T d)(F:rW d)(a:∀q,q<T.length->aY T (aa T) q=0)(Q:sB T d)(f:PS.map (·.1)=(List.range (aa T).length).map (nO (aa T) (DO T (aa T))))(H:oJ (aa T) PS ((List.range (aa T).length).map (mI T (aa T) (Ap T (aa T)))) RS (aa T).length)(B:w<d.Ya.length) :
  (∀n,n<d.Ya.length->nP (bQ d.Ya d.Ya.length) n=cM RS (aw (aa T) n))/\∀k,eI PS RS (aw (aa T) w) k ↔ ∃n,n<d.Ya.length/\k=aw (aa T) n/\RP d.Ya (bQ d.Ya d.Ya.length) w n:=by
 have G:=R.rows F a Q f H;have D:∀n,n<d.Ya.length->eN (bQ d.Ya d.Ya.length) n=(fh d.Ya n).XS:=fun n b=>tu d.Ya b;have j:∀n,n<d.Ya.length->nP (bQ d.Ya d.Ya.length) n=cM RS (aw (aa T) n):=fun n b=>by
  unfold nP cM;rw[D n b,G n b];rfl
 have A:∀n,n<d.Ya.length->cM RS (aw (aa T) n)=true->∃s,d.Ya[n]?=some s/\s.Yd=5:=fun n b h=>by
  obtain⟨s,g,-⟩:=R.get b;refine⟨s,g,(ux g).1 ?_⟩;rw[<-j n b]at h;unfold nP at h;rw[D n b,Uy,Vo,Vo]at h;exact h
 refine⟨j,fun k=>⟨fun h=>?_,?_⟩⟩
 ·refine h (fun k=>∃n,n<d.Ya.length/\k=aw (aa T) n/\RP d.Ya (bQ d.Ya d.Ya.length) w n) ⟨w,B,rfl,fun P h _=>h⟩ (fun t k i r o p c=>?_);obtain⟨n,b,rfl,K⟩:=r;obtain⟨s,g,u⟩:=A n b o;rw[R.pst F a Q f g u]at p c;rw[Uh]at p;rw[mJ _ _ p]at c;have I:=un d.Ya n s i _ (TF p);unfold rs at c;rcases I with l | ⟨l,-⟩ | ⟨l,J⟩
  ·rw[TJ l]at c;simp only at c;omega
  ·rw[l,TH (by omega),TH (by omega)]at c;simp only at c;omega
  ·rw[l,TH (by omega),TJ rfl]at c;simp only at c;refine⟨_,J.lt,by omega,K.step (by rw[j n b];exact o) ?_⟩;unfold o8;rw[g];refine V3.2 ⟨_,Ue p,?_⟩;unfold pI;rw[TJ (by rw[l];rfl)]
 ·rintro ⟨n,b,rfl,h⟩;have:=h (fun m=>m<d.Ya.length/\eI PS RS (aw (aa T) w) (aw (aa T) m)) ⟨B,eI.self⟩ (fun t m r z v=>?_)
  ·exact this.2
  ·have y:m<d.Ya.length:=(by have:=xX v;omega);refine⟨y,?_⟩;rw[j t r.1]at z;obtain⟨s,g,u⟩:=A t r.1 z;unfold o8 at v;rw[g]at v;obtain⟨x,L,e⟩:=V3.1 v;unfold pI at e;split at e
   ·next o =>
    have o:x.Yd=2:=(by simpa using o);obtain⟨i,C,E⟩:=UL L;have e:=U5 e;refine r.2.step z (i:=i) (by rw[R.pst F a Q f g u,Uh];exact C) ?_;rw[R.pst F a Q f g u,mJ _ _ C,E];unfold rs;rw[o,TH (by omega),TJ rfl,e]
   ·cases e
theorem gB.uses(R:gB T d)(F:rW d)(c:∀q,q<T.length->aY T (aa T) q=0)(Q:sB T d)(y:PS.map (·.1)=(List.range (aa T).length).map (nO (aa T) (DO T (aa T))))(G:oJ (aa T) PS ((List.range (aa T).length).map (mI T (aa T) (Ap T (aa T)))) RS (aa T).length)(b:w<d.Ya.length)(H:∀k,x.getD k false=true ↔ eI PS RS (aw (aa T) w) k) :
  Jp T (aa T) x (aw (aa T) w+1)=(pn d.Ya (bQ d.Ya d.Ya.length) w).1/\Cr T (aa T) RS x (aw (aa T) w+1)=(pn d.Ya (bQ d.Ya d.Ya.length) w).2:=by
 obtain⟨A,z⟩:=R.rea F c Q y G b;have J:=R.hel.at_ b;have B:∀n,n<d.Ya.length->x.getD (aw (aa T) n) false=(mF d.Ya (bQ d.Ya d.Ya.length) w).getD n false:=fun n a=>by
  rw[UY,H,z,IU b];constructor
  ·rintro ⟨m,u,e,h⟩;rw[R.inj a u e];exact h
  ·intro h;exact⟨n,a,rfl,h⟩
 have g:∀n,n<d.Ya.length->(mF d.Ya (bQ d.Ya d.Ya.length) w).getD n false=true->aw (aa T) n<aw (aa T) w+1:=fun n a h=>by
  rw[IU b]at h;have:=h.le;by_cases e:n=w
  ·rw[e];omega
  ·have:=ge (S:=aa T) (n:=n) (a:=w) (by omega) (by rw[<-R.hel.len];exact b);omega
 have f:∀n,n<d.Ya.length->qi d.Ya n=bP T (aq (aa T) (aw (aa T) n)):=fun n a=>by
  obtain⟨s,l,-,D,-⟩:=R.get a;unfold qi;rw[TG,l];exact D
 have i:∀(L:Xv),(∀n∈L,n<d.Ya.length)->(L.map (aw (aa T))).map (fun t=>bP T (aq (aa T) t))=L.map (qi d.Ya):=fun L E=>by
  rw[List.map_map];apply VU;intro n a;exact(f n (E n a)).symm
 have C:∀(p:Nat->Bool) (q:Nat->Bool),(∀j,p j=true->kF (aa T) j=true)->(∀n,n<d.Ya.length->q n=(decide (aw (aa T) n<aw (aa T) w+1)&&p (aw (aa T) n)))->((List.range (aw (aa T) w+1)).filter p).map (fun t=>bP T (aq (aa T) t))=((List.range d.Ya.length).filter q).map (qi d.Ya):=fun p q I v=>by
  rw[<-pC (n:=(aa T).length) (by omega) p,<-rG (m:=d.Ya.length) (q:=q) R.hel.len (fun j _ h=>I j (by rw[Uc]at h;exact h.2)) v];exact i _ (fun n a=>TY.1 (Ux.1 a).1)
 unfold Jp Cr pn;refine⟨C _ _ (fun j h=>?_) (fun n a=>?_),C _ _ (fun j h=>?_) (fun n a=>?_)⟩
 ·unfold Si at h;rw[Uc]at h;unfold kF;rw[h.2];simp
 ·obtain⟨s,l,r,-,-⟩:=R.get a;unfold R6 Si;rw[B n a,tu d.Ya a,(ux l).2.1,(mg r).1];cases e:(mF d.Ya (bQ d.Ya d.Ya.length) w).getD n false
  ·simp
  ·rw[U6 (g n a e)];simp
 ·unfold Q0 at h;rw[Uc,Uc]at h;unfold kF;rw[h.2.1];simp
 ·obtain⟨s,l,r,-,-⟩:=R.get a;have o:=A n a;unfold nP at o;rw[tu d.Ya a]at o;unfold R8 Q0;rw[B n a,tu d.Ya a,(ux l).2.2,(mg r).2,o];cases e:(mF d.Ya (bQ d.Ya d.Ya.length) w).getD n false
  ·simp
  ·rw[U6 (g n a e)];simp
end
end Go.Proofs.YtnbhnocdhbcbcaaGreat
