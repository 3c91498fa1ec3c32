import Derived.Test.YtnbhnocdhbcbcaaGreatK28
import Derived.Test.YtnbhnocdhbcbcaaGreatK29
namespace Go.Proofs.YtnbhnocdhbcbcaaGreat
open Go.RowKit Tryz
open Value IntKind Ending
set_option maxHeartbeats 0
variable{b n:Nat}{S:St}{y:List (jP×Hd)}{x:List iq}(w:List St)(l:Nat)(H:St)(f:List Rw)
theorem mh{l:List UInt8}{k:Int}(h:fn l k):(k==4)=(l == [36,97])/\(k==5)=(l == [36,112]):=by
 (rcases h with ⟨rfl,rfl⟩ | ⟨rfl,rfl⟩ | ⟨rfl,rfl⟩ | ⟨rfl,rfl⟩ | ⟨rfl,rfl⟩ | ⟨rfl,rfl⟩ | ⟨rfl,rfl⟩) <;> decide
def fj(l:List St)(n:Nat):Rw:=lp l n (bP l n)
theorem Qu(k:Nat):bP w k=(List.range k).map (fj w):=by
 induction k with
 | zero=>rfl
 | succ k a=>rw[bP,UU,Uh,<-a];rfl
theorem tu(h:n<b):eO (bP w b) n=(fj w n).XF:=by
 unfold eO;rw[Qu,To,Ua,Vg h];rfl
theorem Dn:((nf (dr w l H f)).XF=4->dr w l H f=if m8 f (dC w l H).1=true then { nf (dr w l H f) with XF:=5 } else nf (dr w l H f))/\((nf (dr w l H f)).XF≠4->dr w l H f=nf (dr w l H f)):=by
 unfold dr kG;generalize (if(uH (dC w l H).1).isNone=true/\((dC w l H).2.1==0)=true then fR w l H (dC w l H).1 else(dC w l H).2)=b;split
 ·split
  ·exact⟨(fun h=>by cases h),fun _=>rfl⟩
  ·split
   ·exact⟨fun _=>rfl,fun h=>absurd rfl h⟩
   ·exact⟨fun _=>rfl,fun h=>absurd rfl h⟩
 ·exact⟨(fun h=>by cases h),fun _=>rfl⟩
theorem xQ:(dr w l H f).XF=2∨(dr w l H f).XF=3∨(dr w l H f).XF=4∨(dr w l H f).XF=5:=by
 unfold dr kG;generalize (if(uH (dC w l H).1).isNone=true/\((dC w l H).2.1==0)=true then fR w l H (dC w l H).1 else(dC w l H).2)=a;split
 ·split
  ·exact TE (TH rfl)
  ·split
   ·exact TE (TE (TE rfl))
   ·exact TE (TE (TH rfl))
 ·exact TH rfl
section
variable {T:List Tk} {d:Db}
theorem gB.prf(R:gB T d)(F:rW d)(a:∀q,q<T.length->aY T (aa T) q=0)(Q:sB T d)(f:d.XQ[b]?=some S)(l:S.XU=5):DJ T (aa T) (aw (aa T) b)=rg T (aa T) (dC d.XQ b S):=by
 have c:=(TA.1 f).1;obtain⟨o,-,-⟩:=R.sget f;have g:((aq (aa T) (aw (aa T) b)).k.toList == [36,112])=true:=by rw[<-(mh o).2,l];rfl
 have P:=ly (dO T) a _ (R.hel.at_ c) (fO g (by decide));obtain⟨-,-,-,n⟩:=Oa P g;obtain⟨v,w⟩:=Q.pr b S f l;have y:=P.zt;have u:=P.pos;unfold DJ;exact JE (fun x t=>R.use a Q.til c x t) Q.ne (fun i j p r e=>R.inj p r e) (R.hyps (R.flo F) c) (fun m s=>(Iv s).lt) n (by omega) P.dot v w
theorem gB.rwIs(R:gB T d)(F:rW d)(a:∀q,q<T.length->aY T (aa T) q=0)(Q:sB T d)(c:d.XQ[b]?=some S)(e:S.XU=5)(L:List Rw):Ap T (aa T) (aw (aa T) b)=Oq (nf (dr d.XQ b S L)):=by
 have i:=(TA.1 c).1;obtain⟨-,f,g⟩:=R.sget c;unfold Ap;rw[R.prf F a Q c e];exact GL (R.py F a i) f (Q.pr b S c e).2 g L
theorem gB.base(R:gB T d)(F:rW d)(a:∀q,q<T.length->aY T (aa T) q=0)(Q:sB T d)(i:b<d.XQ.length):mJ T (aa T) (Ap T (aa T)) (aw (aa T) b)=Oq (nf (fj d.XQ b)):=by
 obtain⟨s,c,g,f,k⟩:=R.get i;obtain⟨j,e⟩:=mh g;unfold mJ fj lp;rw[c];simp only;unfold Nd my;rw[j,e];split
 ·rw[<-f];rfl
 ·split
  ·next h=>exact R.rwIs F a Q c (by rw[<-e]at h;simpa using h) _
  ·rfl
end
theorem Is{l:List St}(h:EP l b n):n<b:=by
 obtain⟨s,c,-,a⟩:=h;unfold fE at a;rw[c]at a;simp only[Bool.and_eq_true,decide_eq_true_eq]at a;exact a.1
theorem eJ.trans{c:Nat}(e:eJ y x b n)(f:eJ y x n c):eJ y x b c:=fun P d a=>f P (e P d a) a
theorem eJ.stop(h:eJ y x b n)(c:cM x b=false):n=b :=
 h (fun k=>k=b) rfl (fun t k i d a _ _=>by rw[d,c]at a;cases a)
def zc(T:List Tk):List iq:=(List.range (aa T).length).map (mJ T (aa T) (Ap T (aa T)))
section
variable {T:List Tk} {d:Db} {PS:List (jP×Hd)} {RS:List iq}
theorem gB.rows(R:gB T d)(F:rW d)(I:∀q,q<T.length->aY T (aa T) q=0)(Q:sB T d)(a5:PS.map (·.1)=(List.range (aa T).length).map (nO (aa T) (DJ T (aa T))))(hf:oJ (aa T) PS (zc T) RS (aa T).length)(n:Nat) :
  n<d.XQ.length->dW RS (aw (aa T) n)=Oq (fj d.XQ n):=by
 have hB:∀j,j<(aa T).length->dW (zc T) j=mJ T (aa T) (Ap T (aa T)) j:=fun j hj=>by
  unfold dW zc;rw[To,Ua,Vg hj];rfl
 have D:∀n,n<d.XQ.length->dW (zc T) (aw (aa T) n)=Oq (nf (fj d.XQ n)):=fun n z=>by
  rw[hB _ (R.hel.at_ z),R.base F I Q z]
 -- what is sound is a theorem of the record
 have w:∀t,cM (zc T) t=true->∃m s,d.XQ[m]?=some s/\s.XU=5/\t=aw (aa T) m/\(hQ PS t).1.st=(dC d.XQ m s).1.map (rr T (aa T)):=fun t o=>by
  by_cases hl:t<(aa T).length
  ·have H:my (aa T) t=true:=by
    unfold cM at o;rw[hB t hl]at o;cases e:my (aa T) t
    ·unfold mJ at o;rw[e]at o;split at o
     ·cases o
     ·cases o
    ·rfl
   have hk:=H;unfold my at hk;obtain⟨m,hm,rfl⟩:=R.rcOf hl (by unfold kF;rw[hk];simp);obtain⟨s,O,W,-,-⟩:=R.get hm;have b:s.XU=5:=by
    have:=(mh W).2;rw[hk]at this;simpa using this
   refine⟨m,s,O,b,rfl,?_⟩;have e1:(hQ PS (aw (aa T) m)).1=nO (aa T) (DJ T (aa T)) (aw (aa T) m):=by
    have:(PS.map (·.1))[aw (aa T) m]?=((List.range (aa T).length).map (nO (aa T) (DJ T (aa T))))[aw (aa T) m]?:=(by rw[a5]);rw[Ua,Ua,Vg hl]at this;unfold hQ;rw[To];cases e:PS[aw (aa T) m]? with
    | none=>rw[e]at this;cases this
    | some x=>rw[e]at this;exact UQ this
   rw[e1];unfold nO;rw[Tr H,R.prf F I Q O b];rfl
  ·exfalso
   unfold cM dW zc at o;rw[To,Un (by rw[TT,U8];omega)]at o;cases o
 have Z:∀{m i k:Nat} {s:St},i<((dC d.XQ m s).1.map (rr T (aa T))).length->(bN ((dC d.XQ m s).1.map (rr T (aa T))) i).ref=(k:Int)->∃x,x∈(dC d.XQ m s).1/\x.XU=2/\k=aw (aa T) x.XA/\EP d.XQ m x.XA:=fun {m i k s} p y=>by
  rw[TT]at p;rw[mK _ _ p]at y;have M:=un d.XQ m s i _ (Tn p);refine⟨_,TP p,?_⟩;unfold rr at y;rcases M with G | ⟨G,-⟩ | ⟨G,V⟩
  ·rw[Tr G]at y;simp only at y;omega
  ·rw[G,Tp (by omega),Tp (by omega)]at y;simp only at y;omega
  ·rw[G,Tp (by omega),Tr rfl]at y;simp only at y;exact⟨G,by omega,V⟩
 have ap:∀t k i:Nat,cM (zc T) t=true->i<(hQ PS t).1.st.length->(bN (hQ PS t).1.st i).ref=(k:Int)->k<t:=fun t k i o p y=>by
  obtain⟨m,s,O,-,rfl,e⟩:=w t o;rw[e]at p y;obtain⟨x,-,-,rfl,hx⟩:=Z p y;exact ge (Is hx) (by rw[<-R.hel.len];exact(TA.1 O).1)
 have hV:∀n,n<d.XQ.length->(cM (zc T) (aw (aa T) n)=true ↔ (nf (fj d.XQ n)).XF=4):=fun n z=>by
  unfold cM;rw[D n z]
  show(((nf (fj d.XQ n)).XF==4)||((nf (fj d.XQ n)).XF==5))=true ↔ _
  have b:((nf (fj d.XQ n)).XF==5)=false:=by
   unfold nf;split
   ·rfl
   ·next h=>exact TU.2 h
  rw[b,Vd,Vb]
 induction n using Nat.strongRecOn with
 | ind n ih =>
  intro z;have hJ:=R.hel.at_ z;by_cases g:(nf (fj d.XQ n)).XF=4
  ·-- a valid XK
   have P:=(hV n z).2 g;obtain⟨m,s,O,az,hm,U⟩:=w _ P;have N:n=m:=R.inj z (TA.1 O).1 hm;subst N;have J:fj d.XQ n=dr d.XQ n s (bP d.XQ n):=by
    unfold fj lp;rw[O];simp only;rw[az,Tp (by decide),Tr (by decide)]
   have A:=(Dn d.XQ n s (bP d.XQ n)).1 (by rw[<-J];exact g);rw[<-J]at A
   -- what a row ahead tells
   have ai:∀m,m<n->my (aa T) (aw (aa T) m)=true->(xg (fj d.XQ m).XF=false ↔ cM (zc T) (aw (aa T) m)=true/\pY (aa T) PS (zc T) (aw (aa T) m)):=fun m N H=>by
    have v:m<d.XQ.length:=(by omega);have p:=ih m N v;have a2:∀L,(lp d.XQ m L).XF=2∨(lp d.XQ m L).XF=3∨(lp d.XQ m L).XF=4∨(lp d.XQ m L).XF=5:=fun L=>by
     obtain⟨u,Y,W,-,-⟩:=R.get v;unfold my at H;have b:=(mh W).2;rw[H]at b;have g:(u.XU==4)=false:=(by rw[(mh W).1,cC H];decide);unfold lp;rw[Y];simp only;rw[g,b,Tp (by simp),Tr rfl];exact xQ d.XQ m u L
    have ac:xg (fj d.XQ m).XF=false ↔ (fj d.XQ m).XF=5:=by
     rcases a2 (bP d.XQ m) with h | h | h | h <;> (unfold fj;rw[h];decide)
    have a6:(dW RS (aw (aa T) m)).XF=(fj d.XQ m).XF:=(by rw[p];rfl);have f:=D m v;rw[ac,<-a6];by_cases c:(dW (zc T) (aw (aa T) m)).XF=4/\pY (aa T) PS (zc T) (aw (aa T) m)
    ·rw[hf.yes _ (R.hel.at_ v) c.1 c.2];refine⟨fun _=>⟨?_,c.2⟩,fun _=>rfl⟩;unfold cM;rw[c.1];rfl
    ·rw[hf.no _ (R.hel.at_ v) c];constructor
     ·intro b;rw[f]at b;have b:(nf (fj d.XQ m)).XF=5:=b;unfold nf at b;split at b
      ·cases b
      ·next h=>exact absurd b h
     ·rintro ⟨G,V⟩;refine absurd ⟨?_,V⟩ c;rw[f];exact(hV m v).1 G
   have ao:m8 (bP d.XQ n) (dC d.XQ n s).1=true ↔ pY (aa T) PS (zc T) (aw (aa T) n):=by
    unfold m8;rw[Uw];constructor
    ·intro X
     -- the things reached
     have K:∀t,eJ PS (zc T) (aw (aa T) n) t->t=aw (aa T) n∨(pY (aa T) PS (zc T) t/\(my (aa T) t=true->cM (zc T) t=true)):=fun t o=>by
      refine o (fun t=>t=aw (aa T) n∨(pY (aa T) PS (zc T) t/\(my (aa T) t=true->cM (zc T) t=true))) (TH rfl) (fun t k i H V h3 g=>?_)
      right
      rcases H with rfl | ⟨M,hp⟩
      ·rw[U]at h3 g;obtain⟨x,hx,B,rfl,C⟩:=Z h3 g;have r:=Is C;have an:=X x hx;rw[B,tu d.XQ r]at an;have a1:xg (fj d.XQ x.XA).XF=false:=(by simpa using an);cases l:my (aa T) (aw (aa T) x.XA)
       ·refine⟨fun u _ Y E=>?_,fun h=>by cases h⟩;have a3:cM (zc T) (aw (aa T) x.XA)=false:=by
         cases e:cM (zc T) (aw (aa T) x.XA)
         ·rfl
         ·obtain⟨m',s',al,ax,aT,-⟩:=w _ e;have a0:x.XA=m':=R.inj C.lt (TA.1 al).1 aT;subst a0;obtain⟨ar,-,-⟩:=R.sget al;have:=(mh ar).2;rw[ax]at this;unfold my at l;rw[l]at this;cases this
        rw[Y.stop a3,l]at E;cases E
       ·obtain⟨s1,s2⟩:=(ai x.XA r l).1 a1;exact⟨s2,fun _=>s1⟩
      ·have ba:=ap t k i V h3 g;have ag:eJ PS (zc T) t k:=eJ.self.step V h3 g;exact⟨fun u Y aS E=>M u (by omega) (ag.trans aS) E,fun a4=>M k (by omega) ag a4⟩
     intro t bd o hp;rcases K t o with rfl | ⟨-,h⟩
     ·exact P
     ·exact h hp
    ·intro M x hx;by_cases B:x.XU=2
     ·obtain⟨i,p,e⟩:=Uy hx;have av:=un d.XQ n s i x (by rw[Tn p,e]);have C:EP d.XQ n x.XA:=by
       rcases av with h | ⟨h,-⟩ | ⟨-,h⟩
       ·omega
       ·omega
       ·exact h
      have r:=Is C;have a7:=C.lt;rw[B,tu d.XQ r];have af:(bN (hQ PS (aw (aa T) n)).1.st i).ref=((aw (aa T) x.XA:Nat):Int):=by
       rw[U,mK _ _ p,e];unfold rr;rw[B,Tp (by omega),Tr rfl]
      have ad:eJ PS (zc T) (aw (aa T) n) (aw (aa T) x.XA):=eJ.self.step P (by rw[U,TT];exact p) af;have bc:=ge (S:=aa T) r (by rw[<-R.hel.len];exact z);cases l:my (aa T) (aw (aa T) x.XA)
      ·obtain⟨u,Y,W,-,-⟩:=R.get a7;have b:(u.XU==5)=false:=(by rw[(mh W).2];exact l);have:xg (fj d.XQ x.XA).XF=false:=by
        unfold fj lp;rw[Y];simp only;rw[b];split
        ·rfl
        ·rfl
       rw[this];rfl
      ·rw[(ai x.XA r l).2 ⟨M _ (by omega) ad l,fun t o h hp=>M t (by omega) (ad.trans h) hp⟩];rfl
     ·rw[show(x.XU==2)=false from TU.2 B];rfl
   have f:=D n z;by_cases X:m8 (bP d.XQ n) (dC d.XQ n s).1=true
   ·rw[Tr X]at A;rw[hf.yes _ hJ (by rw[f];exact g) (ao.1 X),f,A];have:nf { nf (fj d.XQ n) with XF:=5 }=nf (fj d.XQ n):=by
     generalize nf (fj d.XQ n)=x at g;unfold nf;rw[Tr rfl];cases x
     simp only at g;rw[g]
    rw[this];rfl
   ·rw[Tp X]at A;rw[hf.no _ hJ (fun h=>X (ao.2 h.2)),f,<-A]
  ·have f:=D n z;rw[hf.no _ hJ (fun h=>g (by have:=h.1;rw[f]at this;exact this)),f];congr 1;unfold nf;rw[Tp];intro b;unfold nf at g;rw[Tr b]at g;exact g rfl
end
end Go.Proofs.YtnbhnocdhbcbcaaGreat
