import Derived.Test.YtnbhnocdhbcbcaaGreatK34
namespace Go.Proofs.YtnbhnocdhbcbcaaGreat
open Go.RowKit Tryz
open Value IntKind Ending
set_option maxHeartbeats 0
variable{w n:Nat}{x:List Bool}{b:St}(f:List Bool)(S H:Nat)
def nO(L:List Rw)(n:Nat):Bool:=(eN L n==4)||(eN L n==5)
def pH(x:kC):Option Nat:=if(x.XS==2)=true then some x.Xz else none
def oZ(l:List St)(n:Nat):Xv:=match l[n]? with
 | some s=>(dB l n s).1.filterMap pH
 | none=>[]
def qi(ms:List Bool)(m:Nat):List Bool:=if m<ms.length then ms.set m true else ms
def qK(ms:List Bool)(ns:Xv):List Bool:=ns.foldl qi ms
def mR(l:List St)(L:List Rw)(ms:List Bool)(k:Nat):List Bool:=if ms.getD k false=true/\nO L k=true then qK ms (oZ l k) else ms
def lq(l:List St)(L:List Rw):Nat->List Bool->List Bool
 | 0,ms=>ms
 | k+1,ms=>lq l L k (mR l L ms k)
def mF(l:List St)(L:List Rw)(a:Nat):List Bool:=lq l L (a+1) ((List.replicate l.length false).set a true)
theorem z9:(qi f H).length=f.length:=by
 unfold qi;split
 ·rw[Ul]
 ·rfl
theorem J9:(qi f S).getD H false=true ↔ f.getD H false=true∨(H=S/\S<f.length):=by
 unfold qi;split
 ·next h =>
  rw[Tn,Uz,Tn];by_cases e:S=H
  ·subst e;rw[Tq rfl,Tq h];exact⟨fun _=>TA ⟨rfl,h⟩,fun _=>rfl⟩
  ·rw[To e];exact⟨TG,fun h=>h.elim id (fun h=>absurd h.1.symm e)⟩
 ·next h=>exact⟨TG,fun a=>a.elim id (fun a=>absurd a.2 h)⟩
theorem Ka(b:Xv):∀a,(qK a b).length=a.length:=by
 induction b with
 | nil=>intro a;rfl
 | cons m r c=>intro a;show(qK (qi a m) r).length=_;rw[c,z9]
theorem rB(d:Xv):∀a q,(qK a d).getD q false=true ↔ a.getD q false=true∨(q∈d/\q<a.length):=by
 induction d with
 | nil=>intro a q;exact⟨TG,fun h=>h.elim id (fun h=>by cases h.1)⟩
 | cons m r e =>
  intro a q
  show(qK (qi a m) r).getD q false=true ↔ _
  rw[e,J9,z9];constructor
  ·rintro ((h | ⟨rfl,h⟩) | ⟨b,c⟩)
   ·exact TG h
   ·exact TA ⟨Ud,h⟩
   ·exact TA ⟨Uc _ b,c⟩
  ·rintro (h | ⟨b,c⟩)
   ·exact TG (TG h)
   ·rcases Ua.1 b with rfl | b
    ·exact TG (TA ⟨rfl,c⟩)
    ·exact TA ⟨b,c⟩
section
variable {l:List St} {L:List Rw}
theorem ym:(mR l L f H).length=f.length:=by
 unfold mR;split
 ·exact Ka _ _
 ·rfl
theorem KG(k:Nat):∀a,(lq l L k a).length=a.length:=by
 induction k with
 | zero=>intro a;rfl
 | succ k b=>intro a;rw[lq,b,ym]
theorem xW(h:n∈oZ l w):n<w:=by
 unfold oZ at h;split at h
 ·next s f =>
  obtain⟨x,d,e⟩:=VL.1 h;unfold pH at e;split at e
  ·next a =>
   obtain⟨i,c,b⟩:=Ux d;have a:x.XS=2:=(by simpa using a);rcases um l w s i x (by rw[Tm c,b]) with g | ⟨g,-⟩ | ⟨-,g⟩
   ·omega
   ·omega
   ·rw[<-UP e];exact Ir g
  ·cases e
 ·cases h
def RP(l:List St)(L:List Rw)(a m:Nat):Prop:=∀P:Nat->Prop,P a->(∀t m:Nat,P t->nO L t=true->m∈oZ l t->P m)->P m
theorem RP.step{t:Nat}(h:RP l L w t)(c:nO L t=true)(d:n∈oZ l t):RP l L w n:=fun P b a=>a t n (h P b a) c d
theorem F7(h:∀m,x.getD m false=true->RP l L w m):∀m,(mR l L x H).getD m false=true->RP l L w m:=fun m a=>by
 unfold mR at a;split at a
 ·next c =>
  rcases(rB _ _ _).1 a with b | ⟨b,-⟩
  ·exact h m b
  ·exact(h H c.1).step c.2 b
 ·exact h m a
theorem KH(k:Nat):∀a,(∀m,a.getD m false=true->RP l L w m)->∀m,(lq l L k a).getD m false=true->RP l L w m:=by
 induction k with
 | zero=>intro a h;exact h
 | succ k b=>intro a h;rw[lq];exact b _ (F7 k h)
theorem DR(h:f.getD H false=true):(mR l L f S).getD H false=true:=by
 unfold mR;split
 ·exact(rB _ _ _).2 (TG h)
 ·exact h
theorem yn(k:Nat):∀a m,a.getD m false=true->(lq l L k a).getD m false=true:=by
 induction k with
 | zero=>intro a m h;exact h
 | succ k b=>intro a m h;rw[lq];exact b _ m (DR a k m h)
theorem Ah(h:S<=H):(mR l L f S).getD H false=f.getD H false:=by
 rw[UK];unfold mR;split
 ·rw[rB];exact⟨fun a=>a.elim id (fun a=>by have:=xW a.1;omega),TG⟩
 ·exact Iff.rfl
theorem NP(k:Nat):∀a m,k<=m->(lq l L k a).getD m false=a.getD m false:=by
 induction k with
 | zero=>intro a m _;rfl
 | succ k b=>intro a m h;rw[lq,b _ m (by omega),Ah a k m (by omega)]
theorem NO(k:Nat):∀a,∀t,t<k->k<=a.length->(lq l L k a).getD t false=true->nO L t=true->∀m∈oZ l t,(lq l L k a).getD m false=true:=by
 induction k with
 | zero=>intro a t h;omega
 | succ k f =>
  intro a t i g b d m c;rw[lq]at b ⊢;by_cases e:t<k
  ·exact f _ t e (by rw[ym];omega) b d m c
  ·have e:t=k:=(by omega);subst e;rw[NP t _ t (Tp _),Ah a t t (Tp _)]at b;apply yn;unfold mR;rw[Tq ⟨b,d⟩,rB];exact TA ⟨c,by have:=xW c;omega⟩
theorem IP(d:w<l.length)(m:Nat):(mF l L w).getD m false=true ↔ RP l L w m:=by
 have b:∀m,((List.replicate l.length false).set w true).getD m false=true ↔ m=w:=fun m=>by
  rw[Tn,Uz];by_cases e:w=m
  ·subst e;rw[Tq rfl,Tq (by rw[Wy];exact d)];exact⟨fun _=>rfl,fun _=>rfl⟩
  ·rw[To e,UO];constructor
   ·intro h;split at h <;> cases h
   ·intro h;exact absurd h.symm e
 constructor
 ·exact KH _ _ (fun m f=>by rw[(b m).1 f];exact fun P h _=>h) m
 ·intro h;have a:∀m,RP l L w m->m<=w/\(mF l L w).getD m false=true:=fun m h=>by
   refine h (fun m=>m<=w/\(mF l L w).getD m false=true) ⟨Tp _,yn _ _ _ ((b w).2 rfl)⟩ (fun t m i g c=>?_);have:=xW c;exact⟨by omega,NO (w+1) _ t (by omega) (by rw[Ul,Wy];omega) i.2 g m c⟩
  exact(a m h).2
theorem RP.le(h:RP l L w n):n<=w:=h (fun n=>n<=w) (Tp _) (fun t n b _ a=>by have:=xW a;omega)
end
def RO(l:List St)(L:List Rw)(a n:Nat):Bool:=(mF l L a).getD n false&&(eN L n==1)
def RQ(l:List St)(L:List Rw)(a n:Nat):Bool:=(mF l L a).getD n false&&((eN L n==2)||(eN L n==3))
def pm(l:List St)(L:List Rw)(a:Nat):Xt×Xt:=(((List.range l.length).filter (RO l L a)).map (qh l),((List.range l.length).filter (RQ l L a)).map (qh l))
section
variable {T:List Tk} {d:Db} {PS:List (jO×Hd)} {RS:List ip}
theorem gy.pst(R:gy T d)(F:rV d)(a:∀q,q<T.length->aY T (aa T) q=0)(Q:sA T d)(c:PS.map (·.1)=(List.range (aa T).length).map (nN (aa T) (DI T (aa T))))(f:d.XP[w]?=some b)(g:b.XS=5):(g9 PS (aw (aa T) w)).1.st=(dB d.XP w b).1.map (rm T (aa T)):=by
 have m:=(Tz.1 f).1;have l:=R.hel.at_ m;obtain⟨j,-,-⟩:=R.sget f;have k:mx (aa T) (aw (aa T) w)=true:=by unfold mx;rw[<-(mg j).2,g];rfl
 have i:(g9 PS (aw (aa T) w)).1=nN (aa T) (DI T (aa T)) (aw (aa T) w):=by
  have:(PS.map (·.1))[aw (aa T) w]?=((List.range (aa T).length).map (nN (aa T) (DI T (aa T))))[aw (aa T) w]?:=by rw[c]
  rw[T0,T0,Vf l]at this;unfold g9;rw[Tn];cases e:PS[aw (aa T) w]? with
  | none=>rw[e]at this;cases this
  | some x=>rw[e]at this;exact UP this
 rw[i];unfold nN;rw[Tq k,R.prf F a Q f g];rfl
theorem uw{l:List St}(g:l[w]?=some b):((fh l w).XE=4∨(fh l w).XE=5->b.XS=5)/\((fh l w).XE==1)=(b.XS==4)/\(((fh l w).XE==2)||((fh l w).XE==3))=((b.XS==5) && !(((fh l w).XE==4)||((fh l w).XE==5))):=by
 have e:fh l w=if(b.XS==4)=true then⟨b.XU,1,0,lm⟩ else if(b.XS==5)=true then dq l w b (bP l w) else qr:=by unfold fh ln;rw[g]
 by_cases d:b.XS=4
 ·have c:(b.XS==4)=true:=by rw[d];rfl
  have a:(b.XS==5)=false:=by rw[d];rfl
  rw[c,Tq rfl]at e;rw[e,c,a];exact⟨(fun h=>by rcases h with h | h <;> cases h),rfl,rfl⟩
 ·have c:(b.XS==4)=false:=TT.2 d;rw[c,To (by simp)]at e;by_cases f:b.XS=5
  ·have a:(b.XS==5)=true:=(by rw[f];rfl);rw[a,Tq rfl]at e;rw[e,c,a];rcases xP l w b (bP l w) with h | h | h | h <;> (rw[h];exact⟨fun _=>f,by decide,by decide⟩)
  ·have a:(b.XS==5)=false:=TT.2 f;rw[a,To (by simp)]at e;rw[e,c,a];exact⟨(fun h=>by rcases h with h | h <;> cases h),rfl,rfl⟩
theorem gy.rea(R:gy T d)(F:rV d)(a:∀q,q<T.length->aY T (aa T) q=0)(Q:sA T d)(f:PS.map (·.1)=(List.range (aa T).length).map (nN (aa T) (DI T (aa T))))(H:oI (aa T) PS ((List.range (aa T).length).map (mI T (aa T) (Ao T (aa T)))) RS (aa T).length)(B:w<d.XP.length) :
  (∀n,n<d.XP.length->nO (bP d.XP d.XP.length) n=cK RS (aw (aa T) n))/\∀k,eI PS RS (aw (aa T) w) k ↔ ∃n,n<d.XP.length/\k=aw (aa T) n/\RP d.XP (bP d.XP d.XP.length) w n:=by
 have G:=R.rows F a Q f H;have D:∀n,n<d.XP.length->eN (bP d.XP d.XP.length) n=(fh d.XP n).XE:=fun n b=>tq d.XP b;have j:∀n,n<d.XP.length->nO (bP d.XP d.XP.length) n=cK RS (aw (aa T) n):=fun n b=>by
  unfold nO cK;rw[D n b,G n b];rfl
 have A:∀n,n<d.XP.length->cK RS (aw (aa T) n)=true->∃s,d.XP[n]?=some s/\s.XS=5:=fun n b h=>by
  obtain⟨s,g,-⟩:=R.get b;refine⟨s,g,(uw g).1 ?_⟩;rw[<-j n b]at h;unfold nO at h;rw[D n b,Uk,U9,U9]at h;exact h
 refine⟨j,fun k=>⟨fun h=>?_,?_⟩⟩
 ·refine h (fun k=>∃n,n<d.XP.length/\k=aw (aa T) n/\RP d.XP (bP d.XP d.XP.length) w n) ⟨w,B,rfl,fun P h _=>h⟩ (fun t k i r o p c=>?_);obtain⟨n,b,rfl,K⟩:=r;obtain⟨s,g,u⟩:=A n b o;rw[R.pst F a Q f g u]at p c;rw[TR]at p;rw[mJ _ _ p]at c;have I:=um d.XP n s i _ (Tm p);unfold rm at c;rcases I with l | ⟨l,-⟩ | ⟨l,J⟩
  ·rw[Tq l]at c;simp only at c;omega
  ·rw[l,To (by omega),To (by omega)]at c;simp only at c;omega
  ·rw[l,To (by omega),Tq rfl]at c;simp only at c;refine⟨_,J.lt,by omega,K.step (by rw[j n b];exact o) ?_⟩;unfold oZ;rw[g];refine VL.2 ⟨_,TO p,?_⟩;unfold pH;rw[Tq (by rw[l];rfl)]
 ·rintro ⟨n,b,rfl,h⟩;have:=h (fun m=>m<d.XP.length/\eI PS RS (aw (aa T) w) (aw (aa T) m)) ⟨B,eI.self⟩ (fun t m r z v=>?_)
  ·exact this.2
  ·have y:m<d.XP.length:=(by have:=xW v;omega);refine⟨y,?_⟩;rw[j t r.1]at z;obtain⟨s,g,u⟩:=A t r.1 z;unfold oZ at v;rw[g]at v;obtain⟨x,L,e⟩:=VL.1 v;unfold pH at e;split at e
   ·next o =>
    have o:x.XS=2:=(by simpa using o);obtain⟨i,C,E⟩:=Ux L;have e:=UP e;refine r.2.step z (i:=i) (by rw[R.pst F a Q f g u,TR];exact C) ?_;rw[R.pst F a Q f g u,mJ _ _ C,E];unfold rm;rw[o,To (by omega),Tq rfl,e]
   ·cases e
theorem gy.uses(R:gy T d)(F:rV d)(c:∀q,q<T.length->aY T (aa T) q=0)(Q:sA T d)(y:PS.map (·.1)=(List.range (aa T).length).map (nN (aa T) (DI T (aa T))))(G:oI (aa T) PS ((List.range (aa T).length).map (mI T (aa T) (Ao T (aa T)))) RS (aa T).length)(b:w<d.XP.length)(H:∀k,x.getD k false=true ↔ eI PS RS (aw (aa T) w) k) :
  Jl T (aa T) x (aw (aa T) w+1)=(pm d.XP (bP d.XP d.XP.length) w).1/\Cp T (aa T) RS x (aw (aa T) w+1)=(pm d.XP (bP d.XP d.XP.length) w).2:=by
 obtain⟨A,z⟩:=R.rea F c Q y G b;have J:=R.hel.at_ b;have B:∀n,n<d.XP.length->x.getD (aw (aa T) n) false=(mF d.XP (bP d.XP d.XP.length) w).getD n false:=fun n a=>by
  rw[UK,H,z,IP b];constructor
  ·rintro ⟨m,u,e,h⟩;rw[R.inj a u e];exact h
  ·intro h;exact⟨n,a,rfl,h⟩
 have g:∀n,n<d.XP.length->(mF d.XP (bP d.XP d.XP.length) w).getD n false=true->aw (aa T) n<aw (aa T) w+1:=fun n a h=>by
  rw[IP b]at h;have:=h.le;by_cases e:n=w
  ·rw[e];omega
  ·have:=f9 (S:=aa T) (n:=n) (a:=w) (by omega) (by rw[<-R.hel.len];exact b);omega
 have f:∀n,n<d.XP.length->qh d.XP n=bR T (aq (aa T) (aw (aa T) n)):=fun n a=>by
  obtain⟨s,l,-,D,-⟩:=R.get a;unfold qh;rw[Tn,l];exact D
 have i:∀(L:Xv),(∀n∈L,n<d.XP.length)->(L.map (aw (aa T))).map (fun t=>bR T (aq (aa T) t))=L.map (qh d.XP):=fun L E=>by
  rw[List.map_map];apply VG;intro n a;exact(f n (E n a)).symm
 have C:∀(p:Nat->Bool) (q:Nat->Bool),(∀j,p j=true->kE (aa T) j=true)->(∀n,n<d.XP.length->q n=(decide (aw (aa T) n<aw (aa T) w+1)&&p (aw (aa T) n)))->((List.range (aw (aa T) w+1)).filter p).map (fun t=>bR T (aq (aa T) t))=((List.range d.XP.length).filter q).map (qh d.XP):=fun p q I v=>by
  rw[<-pB (n:=(aa T).length) (by omega) p,<-rE (m:=d.XP.length) (q:=q) R.hel.len (fun j _ h=>I j (by rw[TM]at h;exact h.2)) v];exact i _ (fun n a=>TF.1 (Uj.1 a).1)
 unfold Jl Cp pm;refine⟨C _ _ (fun j h=>?_) (fun n a=>?_),C _ _ (fun j h=>?_) (fun n a=>?_)⟩
 ·unfold R8 at h;rw[TM]at h;unfold kE;rw[h.2];simp
 ·obtain⟨s,l,r,-,-⟩:=R.get a;unfold RO R8;rw[B n a,tq d.XP a,(uw l).2.1,(mg r).1];cases e:(mF d.XP (bP d.XP d.XP.length) w).getD n false
  ·simp
  ·rw[UQ (g n a e)];simp
 ·unfold QU at h;rw[TM,TM]at h;unfold kE;rw[h.2.1];simp
 ·obtain⟨s,l,r,-,-⟩:=R.get a;have o:=A n a;unfold nO at o;rw[tq d.XP a]at o;unfold RQ QU;rw[B n a,tq d.XP a,(uw l).2.2,(mg r).2,o];cases e:(mF d.XP (bP d.XP d.XP.length) w).getD n false
  ·simp
  ·rw[UQ (g n a e)];simp
end
end Go.Proofs.YtnbhnocdhbcbcaaGreat
