import Derived.Test.YtnbhnocdhbcbcaaGreatK28
import Derived.Test.YtnbhnocdhbcbcaaGreatK29
namespace Go.Proofs.YtnbhnocdhbcbcaaGreat
open Go.RowKit Tryz
open Value IntKind Ending
set_option maxHeartbeats 0
variable{b n:Nat}{S:St}{y:List (jP×Hd)}{x:List il}(w:List St)(l:Nat)(H:St)(f:List Rw)
theorem mg{l:List UInt8}{k:Int}(h:fm l k):(k==4)=(l == [36,97])/\(k==5)=(l == [36,112]):=by
 (rcases h with ⟨rfl,rfl⟩ | ⟨rfl,rfl⟩ | ⟨rfl,rfl⟩ | ⟨rfl,rfl⟩ | ⟨rfl,rfl⟩ | ⟨rfl,rfl⟩ | ⟨rfl,rfl⟩) <;> decide
def fh(l:List St)(n:Nat):Rw:=ln l n (bQ l n)
theorem Qw(k:Nat):bQ w k=(List.range k).map (fh w):=by
 induction k with
 | zero=>rfl
 | succ k a=>rw[bQ,U9,Uu,<-a];rfl
theorem tu(h:n<b):eN (bQ w b) n=(fh w n).XS:=by
 unfold eN;rw[Qw,TG,Uo,Vu h];rfl
theorem Dr:((nc (dq w l H f)).XS=4->dq w l H f=if mZ f (dB w l H).1=true then { nc (dq w l H f) with XS:=5 } else nc (dq w l H f))/\((nc (dq w l H f)).XS≠4->dq w l H f=nc (dq w l H f)):=by
 unfold dq kG;generalize (if(uH (dB w l H).1).isNone=true/\((dB w l H).2.1==0)=true then fQ w l H (dB w l H).1 else(dB w l H).2)=b;split
 ·split
  ·exact⟨(fun h=>by cases h),fun _=>rfl⟩
  ·split
   ·exact⟨fun _=>rfl,fun h=>absurd rfl h⟩
   ·exact⟨fun _=>rfl,fun h=>absurd rfl h⟩
 ·exact⟨(fun h=>by cases h),fun _=>rfl⟩
theorem xQ:(dq w l H f).XS=2∨(dq w l H f).XS=3∨(dq w l H f).XS=4∨(dq w l H f).XS=5:=by
 unfold dq kG;generalize (if(uH (dB w l H).1).isNone=true/\((dB w l H).2.1==0)=true then fQ w l H (dB w l H).1 else(dB w l H).2)=a;split
 ·split
  ·exact TU (TZ rfl)
  ·split
   ·exact TU (TU (TU rfl))
   ·exact TU (TU (TZ rfl))
 ·exact TZ rfl
section
variable {T:List Tk} {d:Db}
theorem gB.prf(R:gB T d)(F:rW d)(a:∀q,q<T.length->aY T (aa T) q=0)(Q:sB T d)(f:d.Ya[b]?=some S)(l:S.Yd=5):DO T (aa T) (aw (aa T) b)=rh T (aa T) (dB d.Ya b S):=by
 have c:=(TT.1 f).1;obtain⟨o,-,-⟩:=R.sget f;have g:((aq (aa T) (aw (aa T) b)).k.toList == [36,112])=true:=by rw[<-(mg o).2,l];rfl
 have P:=ly (dN T) a _ (R.hel.at_ c) (fN g (by decide));obtain⟨-,-,-,n⟩:=Oc P g;obtain⟨v,w⟩:=Q.pr b S f l;have y:=P.zt;have u:=P.pos;unfold DO;exact JH (fun x t=>R.use a Q.til c x t) Q.ne (fun i j p r e=>R.inj p r e) (R.hyps (R.flo F) c) (fun m s=>(IA s).lt) n (by omega) P.dot v w
theorem gB.rwIs(R:gB T d)(F:rW d)(a:∀q,q<T.length->aY T (aa T) q=0)(Q:sB T d)(c:d.Ya[b]?=some S)(e:S.Yd=5)(L:List Rw):Ap T (aa T) (aw (aa T) b)=Ou (nc (dq d.Ya b S L)):=by
 have i:=(TT.1 c).1;obtain⟨-,f,g⟩:=R.sget c;unfold Ap;rw[R.prf F a Q c e];exact GR (R.py F a i) f (Q.pr b S c e).2 g L
theorem gB.base(R:gB T d)(F:rW d)(a:∀q,q<T.length->aY T (aa T) q=0)(Q:sB T d)(i:b<d.Ya.length):mI T (aa T) (Ap T (aa T)) (aw (aa T) b)=Ou (nc (fh d.Ya b)):=by
 obtain⟨s,c,g,f,k⟩:=R.get i;obtain⟨j,e⟩:=mg g;unfold mI fh ln;rw[c];simp only;unfold Nf mx;rw[j,e];split
 ·rw[<-f];rfl
 ·split
  ·next h=>exact R.rwIs F a Q c (by rw[<-e]at h;simpa using h) _
  ·rfl
end
theorem Iz{l:List St}(h:EY l b n):n<b:=by
 obtain⟨s,c,-,a⟩:=h;unfold fD at a;rw[c]at a;simp only[Bool.and_eq_true,decide_eq_true_eq]at a;exact a.1
theorem eI.trans{c:Nat}(e:eI y x b n)(f:eI y x n c):eI y x b c:=fun P d a=>f P (e P d a) a
theorem eI.stop(h:eI y x b n)(c:cM x b=false):n=b :=
 h (fun k=>k=b) rfl (fun t k i d a _ _=>by rw[d,c]at a;cases a)
def zc(T:List Tk):List il:=(List.range (aa T).length).map (mI T (aa T) (Ap T (aa T)))
section
variable {T:List Tk} {d:Db} {PS:List (jP×Hd)} {RS:List il}
theorem gB.rows(R:gB T d)(F:rW d)(I:∀q,q<T.length->aY T (aa T) q=0)(Q:sB T d)(a5:PS.map (·.1)=(List.range (aa T).length).map (nO (aa T) (DO T (aa T))))(hf:oJ (aa T) PS (zc T) RS (aa T).length)(n:Nat) :
  n<d.Ya.length->dV RS (aw (aa T) n)=Ou (fh d.Ya n):=by
 have hB:∀j,j<(aa T).length->dV (zc T) j=mI T (aa T) (Ap T (aa T)) j:=fun j hj=>by
  unfold dV zc;rw[TG,Uo,Vu hj];rfl
 have D:∀n,n<d.Ya.length->dV (zc T) (aw (aa T) n)=Ou (nc (fh d.Ya n)):=fun n z=>by
  rw[hB _ (R.hel.at_ z),R.base F I Q z]
 -- what is sound is a theorem of the record
 have w:∀t,cM (zc T) t=true->∃m s,d.Ya[m]?=some s/\s.Yd=5/\t=aw (aa T) m/\(g9 PS t).1.st=(dB d.Ya m s).1.map (rs T (aa T)):=fun t o=>by
  by_cases hl:t<(aa T).length
  ·have H:mx (aa T) t=true:=by
    unfold cM at o;rw[hB t hl]at o;cases e:mx (aa T) t
    ·unfold mI at o;rw[e]at o;split at o
     ·cases o
     ·cases o
    ·rfl
   have hk:=H;unfold mx at hk;obtain⟨m,hm,rfl⟩:=R.rcOf hl (by unfold kF;rw[hk];simp);obtain⟨s,O,W,-,-⟩:=R.get hm;have b:s.Yd=5:=by
    have:=(mg W).2;rw[hk]at this;simpa using this
   refine⟨m,s,O,b,rfl,?_⟩;have e1:(g9 PS (aw (aa T) m)).1=nO (aa T) (DO T (aa T)) (aw (aa T) m):=by
    have:(PS.map (·.1))[aw (aa T) m]?=((List.range (aa T).length).map (nO (aa T) (DO T (aa T))))[aw (aa T) m]?:=(by rw[a5]);rw[Uo,Uo,Vu hl]at this;unfold g9;rw[TG];cases e:PS[aw (aa T) m]? with
    | none=>rw[e]at this;cases this
    | some x=>rw[e]at this;exact U5 this
   rw[e1];unfold nO;rw[TJ H,R.prf F I Q O b];rfl
  ·exfalso
   unfold cM dV zc at o;rw[TG,UA (by rw[Uh,Vm];omega)]at o;cases o
 have Z:∀{m i k:Nat} {s:St},i<((dB d.Ya m s).1.map (rs T (aa T))).length->(bN ((dB d.Ya m s).1.map (rs T (aa T))) i).ref=(k:Int)->∃x,x∈(dB d.Ya m s).1/\x.Yd=2/\k=aw (aa T) x.XN/\EY d.Ya m x.XN:=fun {m i k s} p y=>by
  rw[Uh]at p;rw[mJ _ _ p]at y;have M:=un d.Ya m s i _ (TF p);refine⟨_,Ue p,?_⟩;unfold rs at y;rcases M with G | ⟨G,-⟩ | ⟨G,V⟩
  ·rw[TJ G]at y;simp only at y;omega
  ·rw[G,TH (by omega),TH (by omega)]at y;simp only at y;omega
  ·rw[G,TH (by omega),TJ rfl]at y;simp only at y;exact⟨G,by omega,V⟩
 have ap:∀t k i:Nat,cM (zc T) t=true->i<(g9 PS t).1.st.length->(bN (g9 PS t).1.st i).ref=(k:Int)->k<t:=fun t k i o p y=>by
  obtain⟨m,s,O,-,rfl,e⟩:=w t o;rw[e]at p y;obtain⟨x,-,-,rfl,hx⟩:=Z p y;exact ge (Iz hx) (by rw[<-R.hel.len];exact(TT.1 O).1)
 have hV:∀n,n<d.Ya.length->(cM (zc T) (aw (aa T) n)=true ↔ (nc (fh d.Ya n)).XS=4):=fun n z=>by
  unfold cM;rw[D n z]
  show(((nc (fh d.Ya n)).XS==4)||((nc (fh d.Ya n)).XS==5))=true ↔ _
  have b:((nc (fh d.Ya n)).XS==5)=false:=by
   unfold nc;split
   ·rfl
   ·next h=>exact Ui.2 h
  rw[b,Vr,Vo]
 induction n using Nat.strongRecOn with
 | ind n ih =>
  intro z;have hJ:=R.hel.at_ z;by_cases g:(nc (fh d.Ya n)).XS=4
  ·-- a valid XY
   have P:=(hV n z).2 g;obtain⟨m,s,O,az,hm,U⟩:=w _ P;have N:n=m:=R.inj z (TT.1 O).1 hm;subst N;have J:fh d.Ya n=dq d.Ya n s (bQ d.Ya n):=by
    unfold fh ln;rw[O];simp only;rw[az,TH (by decide),TJ (by decide)]
   have A:=(Dr d.Ya n s (bQ d.Ya n)).1 (by rw[<-J];exact g);rw[<-J]at A
   -- what a row ahead tells
   have ai:∀m,m<n->mx (aa T) (aw (aa T) m)=true->(xg (fh d.Ya m).XS=false ↔ cM (zc T) (aw (aa T) m)=true/\pY (aa T) PS (zc T) (aw (aa T) m)):=fun m N H=>by
    have v:m<d.Ya.length:=(by omega);have p:=ih m N v;have a2:∀L,(ln d.Ya m L).XS=2∨(ln d.Ya m L).XS=3∨(ln d.Ya m L).XS=4∨(ln d.Ya m L).XS=5:=fun L=>by
     obtain⟨u,Y,W,-,-⟩:=R.get v;unfold mx at H;have b:=(mg W).2;rw[H]at b;have g:(u.Yd==4)=false:=(by rw[(mg W).1,cw H];decide);unfold ln;rw[Y];simp only;rw[g,b,TH (by simp),TJ rfl];exact xQ d.Ya m u L
    have ac:xg (fh d.Ya m).XS=false ↔ (fh d.Ya m).XS=5:=by
     rcases a2 (bQ d.Ya m) with h | h | h | h <;> (unfold fh;rw[h];decide)
    have a6:(dV RS (aw (aa T) m)).XS=(fh d.Ya m).XS:=(by rw[p];rfl);have f:=D m v;rw[ac,<-a6];by_cases c:(dV (zc T) (aw (aa T) m)).XS=4/\pY (aa T) PS (zc T) (aw (aa T) m)
    ·rw[hf.yes _ (R.hel.at_ v) c.1 c.2];refine⟨fun _=>⟨?_,c.2⟩,fun _=>rfl⟩;unfold cM;rw[c.1];rfl
    ·rw[hf.no _ (R.hel.at_ v) c];constructor
     ·intro b;rw[f]at b;have b:(nc (fh d.Ya m)).XS=5:=b;unfold nc at b;split at b
      ·cases b
      ·next h=>exact absurd b h
     ·rintro ⟨G,V⟩;refine absurd ⟨?_,V⟩ c;rw[f];exact(hV m v).1 G
   have ao:mZ (bQ d.Ya n) (dB d.Ya n s).1=true ↔ pY (aa T) PS (zc T) (aw (aa T) n):=by
    unfold mZ;rw[UJ];constructor
    ·intro X
     -- the things reached
     have K:∀t,eI PS (zc T) (aw (aa T) n) t->t=aw (aa T) n∨(pY (aa T) PS (zc T) t/\(mx (aa T) t=true->cM (zc T) t=true)):=fun t o=>by
      refine o (fun t=>t=aw (aa T) n∨(pY (aa T) PS (zc T) t/\(mx (aa T) t=true->cM (zc T) t=true))) (TZ rfl) (fun t k i H V h3 g=>?_)
      right
      rcases H with rfl | ⟨M,hp⟩
      ·rw[U]at h3 g;obtain⟨x,hx,B,rfl,C⟩:=Z h3 g;have r:=Iz C;have an:=X x hx;rw[B,tu d.Ya r]at an;have a1:xg (fh d.Ya x.XN).XS=false:=(by simpa using an);cases l:mx (aa T) (aw (aa T) x.XN)
       ·refine⟨fun u _ Y E=>?_,fun h=>by cases h⟩;have a3:cM (zc T) (aw (aa T) x.XN)=false:=by
         cases e:cM (zc T) (aw (aa T) x.XN)
         ·rfl
         ·obtain⟨m',s',al,ax,aT,-⟩:=w _ e;have a0:x.XN=m':=R.inj C.lt (TT.1 al).1 aT;subst a0;obtain⟨ar,-,-⟩:=R.sget al;have:=(mg ar).2;rw[ax]at this;unfold mx at l;rw[l]at this;cases this
        rw[Y.stop a3,l]at E;cases E
       ·obtain⟨s1,s2⟩:=(ai x.XN r l).1 a1;exact⟨s2,fun _=>s1⟩
      ·have ba:=ap t k i V h3 g;have ag:eI PS (zc T) t k:=eI.self.step V h3 g;exact⟨fun u Y aS E=>M u (by omega) (ag.trans aS) E,fun a4=>M k (by omega) ag a4⟩
     intro t bd o hp;rcases K t o with rfl | ⟨-,h⟩
     ·exact P
     ·exact h hp
    ·intro M x hx;by_cases B:x.Yd=2
     ·obtain⟨i,p,e⟩:=UL hx;have av:=un d.Ya n s i x (by rw[TF p,e]);have C:EY d.Ya n x.XN:=by
       rcases av with h | ⟨h,-⟩ | ⟨-,h⟩
       ·omega
       ·omega
       ·exact h
      have r:=Iz C;have a7:=C.lt;rw[B,tu d.Ya r];have af:(bN (g9 PS (aw (aa T) n)).1.st i).ref=((aw (aa T) x.XN:Nat):Int):=by
       rw[U,mJ _ _ p,e];unfold rs;rw[B,TH (by omega),TJ rfl]
      have ad:eI PS (zc T) (aw (aa T) n) (aw (aa T) x.XN):=eI.self.step P (by rw[U,Uh];exact p) af;have bc:=ge (S:=aa T) r (by rw[<-R.hel.len];exact z);cases l:mx (aa T) (aw (aa T) x.XN)
      ·obtain⟨u,Y,W,-,-⟩:=R.get a7;have b:(u.Yd==5)=false:=(by rw[(mg W).2];exact l);have:xg (fh d.Ya x.XN).XS=false:=by
        unfold fh ln;rw[Y];simp only;rw[b];split
        ·rfl
        ·rfl
       rw[this];rfl
      ·rw[(ai x.XN r l).2 ⟨M _ (by omega) ad l,fun t o h hp=>M t (by omega) (ad.trans h) hp⟩];rfl
     ·rw[show(x.Yd==2)=false from Ui.2 B];rfl
   have f:=D n z;by_cases X:mZ (bQ d.Ya n) (dB d.Ya n s).1=true
   ·rw[TJ X]at A;rw[hf.yes _ hJ (by rw[f];exact g) (ao.1 X),f,A];have:nc { nc (fh d.Ya n) with XS:=5 }=nc (fh d.Ya n):=by
     generalize nc (fh d.Ya n)=x at g;unfold nc;rw[TJ rfl];cases x
     simp only at g;rw[g]
    rw[this];rfl
   ·rw[TH X]at A;rw[hf.no _ hJ (fun h=>X (ao.2 h.2)),f,<-A]
  ·have f:=D n z;rw[hf.no _ hJ (fun h=>g (by have:=h.1;rw[f]at this;exact this)),f];congr 1;unfold nc;rw[TH];intro b;unfold nc at g;rw[TJ b]at g;exact g rfl
end
end Go.Proofs.YtnbhnocdhbcbcaaGreat
