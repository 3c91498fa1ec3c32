import Derived.Test.YtnbhnocdhbcbcaaGreatK28
import Derived.Test.YtnbhnocdhbcbcaaGreatK29
namespace Go.Proofs.YtnbhnocdhbcbcaaGreat
open Go.RowKit Tryz
open Value IntKind Ending
set_option maxHeartbeats 0
variable{b n:Nat}{S:St}{y:List (jO×Hd)}{x:List ip}(w:List St)(l:Nat)(H:St)(f:List Rw)
theorem mg{l:List UInt8}{k:Int}(h:fm l k):(k==4)=(l == [36,97])/\(k==5)=(l == [36,112]):=by
 (rcases h with ⟨rfl,rfl⟩ | ⟨rfl,rfl⟩ | ⟨rfl,rfl⟩ | ⟨rfl,rfl⟩ | ⟨rfl,rfl⟩ | ⟨rfl,rfl⟩ | ⟨rfl,rfl⟩) <;> decide
def fh(l:List St)(n:Nat):Rw:=ln l n (bP l n)
theorem Qt(k:Nat):bP w k=(List.range k).map (fh w):=by
 induction k with
 | zero=>rfl
 | succ k a=>rw[bP,UT,Ug,<-a];rfl
theorem tq(h:n<b):eN (bP w b) n=(fh w n).XE:=by
 unfold eN;rw[Qt,Tn,T0,Vf h];rfl
theorem Dm:((nc (dq w l H f)).XE=4->dq w l H f=if mZ f (dB w l H).1=true then { nc (dq w l H f) with XE:=5 } else nc (dq w l H f))/\((nc (dq w l H f)).XE≠4->dq w l H f=nc (dq w l H f)):=by
 unfold dq kF;generalize (if(uG (dB w l H).1).isNone=true/\((dB w l H).2.1==0)=true then fQ w l H (dB w l H).1 else(dB w l H).2)=b;split
 ·split
  ·exact⟨(fun h=>by cases h),fun _=>rfl⟩
  ·split
   ·exact⟨fun _=>rfl,fun h=>absurd rfl h⟩
   ·exact⟨fun _=>rfl,fun h=>absurd rfl h⟩
 ·exact⟨(fun h=>by cases h),fun _=>rfl⟩
theorem xP:(dq w l H f).XE=2∨(dq w l H f).XE=3∨(dq w l H f).XE=4∨(dq w l H f).XE=5:=by
 unfold dq kF;generalize (if(uG (dB w l H).1).isNone=true/\((dB w l H).2.1==0)=true then fQ w l H (dB w l H).1 else(dB w l H).2)=a;split
 ·split
  ·exact TA (TG rfl)
  ·split
   ·exact TA (TA (TA rfl))
   ·exact TA (TA (TG rfl))
 ·exact TG rfl
section
variable {T:List Tk} {d:Db}
theorem gy.prf(R:gy T d)(F:rV d)(a:∀q,q<T.length->aY T (aa T) q=0)(Q:sA T d)(f:d.XP[b]?=some S)(l:S.XS=5):DI T (aa T) (aw (aa T) b)=rd T (aa T) (dB d.XP b S):=by
 have c:=(Tz.1 f).1;obtain⟨o,-,-⟩:=R.sget f;have g:((aq (aa T) (aw (aa T) b)).k.toList == [36,112])=true:=by rw[<-(mg o).2,l];rfl
 have P:=lx (dN T) a _ (R.hel.at_ c) (fN g (by decide));obtain⟨-,-,-,n⟩:=N9 P g;obtain⟨v,w⟩:=Q.pr b S f l;have y:=P.zt;have u:=P.pos;unfold DI;exact JD (fun x t=>R.use a Q.til c x t) Q.ne (fun i j p r e=>R.inj p r e) (R.hyps (R.flo F) c) (fun m s=>(Is s).lt) n (by omega) P.dot v w
theorem gy.rwIs(R:gy T d)(F:rV d)(a:∀q,q<T.length->aY T (aa T) q=0)(Q:sA T d)(c:d.XP[b]?=some S)(e:S.XS=5)(L:List Rw):Ao T (aa T) (aw (aa T) b)=Oo (nc (dq d.XP b S L)):=by
 have i:=(Tz.1 c).1;obtain⟨-,f,g⟩:=R.sget c;unfold Ao;rw[R.prf F a Q c e];exact GK (R.py F a i) f (Q.pr b S c e).2 g L
theorem gy.base(R:gy T d)(F:rV d)(a:∀q,q<T.length->aY T (aa T) q=0)(Q:sA T d)(i:b<d.XP.length):mI T (aa T) (Ao T (aa T)) (aw (aa T) b)=Oo (nc (fh d.XP b)):=by
 obtain⟨s,c,g,f,k⟩:=R.get i;obtain⟨j,e⟩:=mg g;unfold mI fh ln;rw[c];simp only;unfold Nc mx;rw[j,e];split
 ·rw[<-f];rfl
 ·split
  ·next h=>exact R.rwIs F a Q c (by rw[<-e]at h;simpa using h) _
  ·rfl
end
theorem Ir{l:List St}(h:EO l b n):n<b:=by
 obtain⟨s,c,-,a⟩:=h;unfold fD at a;rw[c]at a;simp only[Bool.and_eq_true,decide_eq_true_eq]at a;exact a.1
theorem eI.trans{c:Nat}(e:eI y x b n)(f:eI y x n c):eI y x b c:=fun P d a=>f P (e P d a) a
theorem eI.stop(h:eI y x b n)(c:cK x b=false):n=b :=
 h (fun k=>k=b) rfl (fun t k i d a _ _=>by rw[d,c]at a;cases a)
def zb(T:List Tk):List ip:=(List.range (aa T).length).map (mI T (aa T) (Ao T (aa T)))
section
variable {T:List Tk} {d:Db} {PS:List (jO×Hd)} {RS:List ip}
theorem gy.rows(R:gy T d)(F:rV d)(I:∀q,q<T.length->aY T (aa T) q=0)(Q:sA T d)(a5:PS.map (·.1)=(List.range (aa T).length).map (nN (aa T) (DI T (aa T))))(hf:oI (aa T) PS (zb T) RS (aa T).length)(n:Nat) :
  n<d.XP.length->dV RS (aw (aa T) n)=Oo (fh d.XP n):=by
 have hB:∀j,j<(aa T).length->dV (zb T) j=mI T (aa T) (Ao T (aa T)) j:=fun j hj=>by
  unfold dV zb;rw[Tn,T0,Vf hj];rfl
 have D:∀n,n<d.XP.length->dV (zb T) (aw (aa T) n)=Oo (nc (fh d.XP n)):=fun n z=>by
  rw[hB _ (R.hel.at_ z),R.base F I Q z]
 -- what is sound is a theorem of the record
 have w:∀t,cK (zb T) t=true->∃m s,d.XP[m]?=some s/\s.XS=5/\t=aw (aa T) m/\(g9 PS t).1.st=(dB d.XP m s).1.map (rm T (aa T)):=fun t o=>by
  by_cases hl:t<(aa T).length
  ·have H:mx (aa T) t=true:=by
    unfold cK at o;rw[hB t hl]at o;cases e:mx (aa T) t
    ·unfold mI at o;rw[e]at o;split at o
     ·cases o
     ·cases o
    ·rfl
   have hk:=H;unfold mx at hk;obtain⟨m,hm,rfl⟩:=R.rcOf hl (by unfold kE;rw[hk];simp);obtain⟨s,O,W,-,-⟩:=R.get hm;have b:s.XS=5:=by
    have:=(mg W).2;rw[hk]at this;simpa using this
   refine⟨m,s,O,b,rfl,?_⟩;have e1:(g9 PS (aw (aa T) m)).1=nN (aa T) (DI T (aa T)) (aw (aa T) m):=by
    have:(PS.map (·.1))[aw (aa T) m]?=((List.range (aa T).length).map (nN (aa T) (DI T (aa T))))[aw (aa T) m]?:=(by rw[a5]);rw[T0,T0,Vf hl]at this;unfold g9;rw[Tn];cases e:PS[aw (aa T) m]? with
    | none=>rw[e]at this;cases this
    | some x=>rw[e]at this;exact UP this
   rw[e1];unfold nN;rw[Tq H,R.prf F I Q O b];rfl
  ·exfalso
   unfold cK dV zb at o;rw[Tn,Um (by rw[TR,U7];omega)]at o;cases o
 have Z:∀{m i k:Nat} {s:St},i<((dB d.XP m s).1.map (rm T (aa T))).length->(bN ((dB d.XP m s).1.map (rm T (aa T))) i).ref=(k:Int)->∃x,x∈(dB d.XP m s).1/\x.XS=2/\k=aw (aa T) x.Xz/\EO d.XP m x.Xz:=fun {m i k s} p y=>by
  rw[TR]at p;rw[mJ _ _ p]at y;have M:=um d.XP m s i _ (Tm p);refine⟨_,TO p,?_⟩;unfold rm at y;rcases M with G | ⟨G,-⟩ | ⟨G,V⟩
  ·rw[Tq G]at y;simp only at y;omega
  ·rw[G,To (by omega),To (by omega)]at y;simp only at y;omega
  ·rw[G,To (by omega),Tq rfl]at y;simp only at y;exact⟨G,by omega,V⟩
 have ap:∀t k i:Nat,cK (zb T) t=true->i<(g9 PS t).1.st.length->(bN (g9 PS t).1.st i).ref=(k:Int)->k<t:=fun t k i o p y=>by
  obtain⟨m,s,O,-,rfl,e⟩:=w t o;rw[e]at p y;obtain⟨x,-,-,rfl,hx⟩:=Z p y;exact f9 (Ir hx) (by rw[<-R.hel.len];exact(Tz.1 O).1)
 have hV:∀n,n<d.XP.length->(cK (zb T) (aw (aa T) n)=true ↔ (nc (fh d.XP n)).XE=4):=fun n z=>by
  unfold cK;rw[D n z]
  show(((nc (fh d.XP n)).XE==4)||((nc (fh d.XP n)).XE==5))=true ↔ _
  have b:((nc (fh d.XP n)).XE==5)=false:=by
   unfold nc;split
   ·rfl
   ·next h=>exact TT.2 h
  rw[b,Vc,U9]
 induction n using Nat.strongRecOn with
 | ind n ih =>
  intro z;have hJ:=R.hel.at_ z;by_cases g:(nc (fh d.XP n)).XE=4
  ·-- a valid XJ
   have P:=(hV n z).2 g;obtain⟨m,s,O,az,hm,U⟩:=w _ P;have N:n=m:=R.inj z (Tz.1 O).1 hm;subst N;have J:fh d.XP n=dq d.XP n s (bP d.XP n):=by
    unfold fh ln;rw[O];simp only;rw[az,To (by decide),Tq (by decide)]
   have A:=(Dm d.XP n s (bP d.XP n)).1 (by rw[<-J];exact g);rw[<-J]at A
   -- what a row ahead tells
   have ai:∀m,m<n->mx (aa T) (aw (aa T) m)=true->(xf (fh d.XP m).XE=false ↔ cK (zb T) (aw (aa T) m)=true/\pX (aa T) PS (zb T) (aw (aa T) m)):=fun m N H=>by
    have v:m<d.XP.length:=(by omega);have p:=ih m N v;have a2:∀L,(ln d.XP m L).XE=2∨(ln d.XP m L).XE=3∨(ln d.XP m L).XE=4∨(ln d.XP m L).XE=5:=fun L=>by
     obtain⟨u,Y,W,-,-⟩:=R.get v;unfold mx at H;have b:=(mg W).2;rw[H]at b;have g:(u.XS==4)=false:=(by rw[(mg W).1,cw H];decide);unfold ln;rw[Y];simp only;rw[g,b,To (by simp),Tq rfl];exact xP d.XP m u L
    have ac:xf (fh d.XP m).XE=false ↔ (fh d.XP m).XE=5:=by
     rcases a2 (bP d.XP m) with h | h | h | h <;> (unfold fh;rw[h];decide)
    have a6:(dV RS (aw (aa T) m)).XE=(fh d.XP m).XE:=(by rw[p];rfl);have f:=D m v;rw[ac,<-a6];by_cases c:(dV (zb T) (aw (aa T) m)).XE=4/\pX (aa T) PS (zb T) (aw (aa T) m)
    ·rw[hf.yes _ (R.hel.at_ v) c.1 c.2];refine⟨fun _=>⟨?_,c.2⟩,fun _=>rfl⟩;unfold cK;rw[c.1];rfl
    ·rw[hf.no _ (R.hel.at_ v) c];constructor
     ·intro b;rw[f]at b;have b:(nc (fh d.XP m)).XE=5:=b;unfold nc at b;split at b
      ·cases b
      ·next h=>exact absurd b h
     ·rintro ⟨G,V⟩;refine absurd ⟨?_,V⟩ c;rw[f];exact(hV m v).1 G
   have ao:mZ (bP d.XP n) (dB d.XP n s).1=true ↔ pX (aa T) PS (zb T) (aw (aa T) n):=by
    unfold mZ;rw[Uv];constructor
    ·intro X
     -- the things reached
     have K:∀t,eI PS (zb T) (aw (aa T) n) t->t=aw (aa T) n∨(pX (aa T) PS (zb T) t/\(mx (aa T) t=true->cK (zb T) t=true)):=fun t o=>by
      refine o (fun t=>t=aw (aa T) n∨(pX (aa T) PS (zb T) t/\(mx (aa T) t=true->cK (zb T) t=true))) (TG rfl) (fun t k i H V h3 g=>?_)
      right
      rcases H with rfl | ⟨M,hp⟩
      ·rw[U]at h3 g;obtain⟨x,hx,B,rfl,C⟩:=Z h3 g;have r:=Ir C;have an:=X x hx;rw[B,tq d.XP r]at an;have a1:xf (fh d.XP x.Xz).XE=false:=(by simpa using an);cases l:mx (aa T) (aw (aa T) x.Xz)
       ·refine⟨fun u _ Y E=>?_,fun h=>by cases h⟩;have a3:cK (zb T) (aw (aa T) x.Xz)=false:=by
         cases e:cK (zb T) (aw (aa T) x.Xz)
         ·rfl
         ·obtain⟨m',s',al,ax,aT,-⟩:=w _ e;have a0:x.Xz=m':=R.inj C.lt (Tz.1 al).1 aT;subst a0;obtain⟨ar,-,-⟩:=R.sget al;have:=(mg ar).2;rw[ax]at this;unfold mx at l;rw[l]at this;cases this
        rw[Y.stop a3,l]at E;cases E
       ·obtain⟨s1,s2⟩:=(ai x.Xz r l).1 a1;exact⟨s2,fun _=>s1⟩
      ·have ba:=ap t k i V h3 g;have ag:eI PS (zb T) t k:=eI.self.step V h3 g;exact⟨fun u Y aS E=>M u (by omega) (ag.trans aS) E,fun a4=>M k (by omega) ag a4⟩
     intro t bd o hp;rcases K t o with rfl | ⟨-,h⟩
     ·exact P
     ·exact h hp
    ·intro M x hx;by_cases B:x.XS=2
     ·obtain⟨i,p,e⟩:=Ux hx;have av:=um d.XP n s i x (by rw[Tm p,e]);have C:EO d.XP n x.Xz:=by
       rcases av with h | ⟨h,-⟩ | ⟨-,h⟩
       ·omega
       ·omega
       ·exact h
      have r:=Ir C;have a7:=C.lt;rw[B,tq d.XP r];have af:(bN (g9 PS (aw (aa T) n)).1.st i).ref=((aw (aa T) x.Xz:Nat):Int):=by
       rw[U,mJ _ _ p,e];unfold rm;rw[B,To (by omega),Tq rfl]
      have ad:eI PS (zb T) (aw (aa T) n) (aw (aa T) x.Xz):=eI.self.step P (by rw[U,TR];exact p) af;have bc:=f9 (S:=aa T) r (by rw[<-R.hel.len];exact z);cases l:mx (aa T) (aw (aa T) x.Xz)
      ·obtain⟨u,Y,W,-,-⟩:=R.get a7;have b:(u.XS==5)=false:=(by rw[(mg W).2];exact l);have:xf (fh d.XP x.Xz).XE=false:=by
        unfold fh ln;rw[Y];simp only;rw[b];split
        ·rfl
        ·rfl
       rw[this];rfl
      ·rw[(ai x.Xz r l).2 ⟨M _ (by omega) ad l,fun t o h hp=>M t (by omega) (ad.trans h) hp⟩];rfl
     ·rw[show(x.XS==2)=false from TT.2 B];rfl
   have f:=D n z;by_cases X:mZ (bP d.XP n) (dB d.XP n s).1=true
   ·rw[Tq X]at A;rw[hf.yes _ hJ (by rw[f];exact g) (ao.1 X),f,A];have:nc { nc (fh d.XP n) with XE:=5 }=nc (fh d.XP n):=by
     generalize nc (fh d.XP n)=x at g;unfold nc;rw[Tq rfl];cases x
     simp only at g;rw[g]
    rw[this];rfl
   ·rw[To X]at A;rw[hf.no _ hJ (fun h=>X (ao.2 h.2)),f,<-A]
  ·have f:=D n z;rw[hf.no _ hJ (fun h=>g (by have:=h.1;rw[f]at this;exact this)),f];congr 1;unfold nc;rw[To];intro b;unfold nc at g;rw[Tq b]at g;exact g rfl
end
end Go.Proofs.YtnbhnocdhbcbcaaGreat
