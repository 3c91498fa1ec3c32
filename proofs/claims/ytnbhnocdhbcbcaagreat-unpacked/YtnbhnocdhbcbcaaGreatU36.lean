import Derived.Test.YtnbhnocdhbcbcaaGreatU30
import Derived.Test.YtnbhnocdhbcbcaaGreatU31
namespace Go.Proofs.YtnbhnocdhbcbcaaGreat
open Go.RowKit Tryz
open Value IntKind Ending
set_option maxHeartbeats 0
variable{b n:Nat}{S:St}{y:List (jW×Hd)}{x:List iH}(w:List St)(l:Nat)(H:St)(f:List Rw)
theorem oB{l:List UInt8}{k:Int}(h:fw l k):(k==4)=(l == [36,97])/\(k==5)=(l == [36,112]):=by
 (rcases h with ⟨rfl,rfl⟩ | ⟨rfl,rfl⟩ | ⟨rfl,rfl⟩ | ⟨rfl,rfl⟩ | ⟨rfl,rfl⟩ | ⟨rfl,rfl⟩ | ⟨rfl,rfl⟩) <;> decide
def dX(l:List St)(n:Nat):Rw:=jO l n (cU l n)
theorem QT(k:Nat):cU w k=(List.range k).map (dX w):=by
 induction k with
 | zero=>rfl
 | succ k a=>rw[cU,Vr,UJ,<-a];rfl
theorem vM(h:n<b):mn (cU w b) n=(dX w n).Yi:=by
 unfold mn;rw[QT,Uc,UL,V7 h];rfl
theorem DL:((ni (cQ w l H f)).Yi=4->cQ w l H f=if nc f (bW w l H).1=true then { ni (cQ w l H f) with Yi:=5 } else ni (cQ w l H f))/\((ni (cQ w l H f)).Yi≠4->cQ w l H f=ni (cQ w l H f)):=by
 unfold cQ kg;generalize (if(pD (bW w l H).1).isNone=true/\((bW w l H).2.1==0)=true then eF w l H (bW w l H).1 else(bW w l H).2)=b;split
 ·split
  ·exact⟨(fun h=>by cases h),fun _=>rfl⟩
  ·split
   ·exact⟨fun _=>rfl,fun h=>absurd rfl h⟩
   ·exact⟨fun _=>rfl,fun h=>absurd rfl h⟩
 ·exact⟨(fun h=>by cases h),fun _=>rfl⟩
theorem ye:(cQ w l H f).Yi=2∨(cQ w l H f).Yi=3∨(cQ w l H f).Yi=4∨(cQ w l H f).Yi=5:=by
 unfold cQ kg;generalize (if(pD (bW w l H).1).isNone=true/\((bW w l H).2.1==0)=true then eF w l H (bW w l H).1 else(bW w l H).2)=a;split
 ·split
  ·exact Uo (Us rfl)
  ·split
   ·exact Uo (Uo (Uo rfl))
   ·exact Uo (Uo (Us rfl))
 ·exact Us rfl
section
variable {T:List Tk} {d:Db}
theorem gw.prf(R:gw T d)(F:sg d)(a:∀q,q<T.length->aY T (aa T) q=0)(Q:tB T d)(f:d.Yt[b]?=some S)(l:S.Yw=5):Fg T (aa T) (av (aa T) b)=rs T (aa T) (bW d.Yt b S):=by
 have c:=(Uk.1 f).1;obtain⟨o,-,-⟩:=R.sget f;have g:((aq (aa T) (av (aa T) b)).k.toList == [36,112])=true:=by rw[<-(oB o).2,l];rfl
 have P:=lG (dN T) a _ (R.hel.at_ c) (fO g (by decide));obtain⟨-,-,-,n⟩:=Ov P g;obtain⟨v,w⟩:=Q.pr b S f l;have y:=P.zt;have u:=P.pos;unfold Fg;exact J1 (fun x t=>R.use a Q.til c x t) Q.ne (fun i j p r e=>R.inj p r e) (R.hyps (R.flo F) c) (fun m s=>(IU s).lt) n (by omega) P.dot v w
theorem gw.rwIs(R:gw T d)(F:sg d)(a:∀q,q<T.length->aY T (aa T) q=0)(Q:tB T d)(c:d.Yt[b]?=some S)(e:S.Yw=5)(L:List Rw):Cq T (aa T) (av (aa T) b)=OL (ni (cQ d.Yt b S L)):=by
 have i:=(Uk.1 c).1;obtain⟨-,f,g⟩:=R.sget c;unfold Cq;rw[R.prf F a Q c e];exact Hb (R.py F a i) f (Q.pr b S c e).2 g L
theorem gw.base(R:gw T d)(F:sg d)(a:∀q,q<T.length->aY T (aa T) q=0)(Q:tB T d)(i:b<d.Yt.length):mY T (aa T) (Cq T (aa T)) (av (aa T) b)=OL (ni (dX d.Yt b)):=by
 obtain⟨s,c,g,f,k⟩:=R.get i;obtain⟨j,e⟩:=oB g;unfold mY dX jO;rw[c];simp only;unfold Ny mG;rw[j,e];split
 ·rw[<-f];rfl
 ·split
  ·next h=>exact R.rwIs F a Q c (by rw[<-e]at h;simpa using h) _
  ·rfl
end
theorem IT{l:List St}(h:Fh l b n):n<b:=by
 obtain⟨s,c,-,a⟩:=h;unfold fH at a;rw[c]at a;simp only[Bool.and_eq_true,decide_eq_true_eq]at a;exact a.1
theorem fk.trans{c:Nat}(e:fk y x b n)(f:fk y x n c):fk y x b c:=fun P d a=>f P (e P d a) a
theorem fk.stop(h:fk y x b n)(c:cG x b=false):n=b :=
 h (fun k=>k=b) rfl (fun t k i d a _ _=>by rw[d,c]at a;cases a)
def zw(T:List Tk):List iH:=(List.range (aa T).length).map (mY T (aa T) (Cq T (aa T)))
section
variable {T:List Tk} {d:Db} {PS:List (jW×Hd)} {RS:List iH}
theorem gw.rows(R:gw T d)(F:sg d)(I:∀q,q<T.length->aY T (aa T) q=0)(Q:tB T d)(a6:PS.map (·.1)=(List.range (aa T).length).map (pV (aa T) (Fg T (aa T))))(hf:pI (aa T) PS (zw T) RS (aa T).length)(n:Nat) :
  n<d.Yt.length->eK RS (av (aa T) n)=OL (dX d.Yt n):=by
 have hB:∀j,j<(aa T).length->eK (zw T) j=mY T (aa T) (Cq T (aa T)) j:=fun j hj=>by
  unfold eK zw;rw[Uc,UL,V7 hj];rfl
 have D:∀n,n<d.Yt.length->eK (zw T) (av (aa T) n)=OL (ni (dX d.Yt n)):=fun n z=>by
  rw[hB _ (R.hel.at_ z),R.base F I Q z]
 -- what is sound is a theorem of the record
 have w:∀t,cG (zw T) t=true->∃m s,d.Yt[m]?=some s/\s.Yw=5/\t=av (aa T) m/\(g9 PS t).1.st=(bW d.Yt m s).1.map (kI T (aa T)):=fun t o=>by
  by_cases hl:t<(aa T).length
  ·have H:mG (aa T) t=true:=by
    unfold cG at o;rw[hB t hl]at o;cases e:mG (aa T) t
    ·unfold mY at o;rw[e]at o;split at o
     ·cases o
     ·cases o
    ·rfl
   have hk:=H;unfold mG at hk;obtain⟨m,hm,rfl⟩:=R.rcOf hl (by unfold lM;rw[hk];simp);obtain⟨s,O,W,-,-⟩:=R.get hm;have b:s.Yw=5:=by
    have:=(oB W).2;rw[hk]at this;simpa using this
   refine⟨m,s,O,b,rfl,?_⟩;have e1:(g9 PS (av (aa T) m)).1=pV (aa T) (Fg T (aa T)) (av (aa T) m):=by
    have:(PS.map (·.1))[av (aa T) m]?=((List.range (aa T).length).map (pV (aa T) (Fg T (aa T))))[av (aa T) m]?:=(by rw[a6]);rw[UL,UL,V7 hl]at this;unfold g9;rw[Uc];cases e:PS[av (aa T) m]? with
    | none=>rw[e]at this;cases this
    | some x=>rw[e]at this;exact Vw this
   rw[e1];unfold pV;rw[Uf H,R.prf F I Q O b];rfl
  ·exfalso
   unfold cG eK zw at o;rw[Uc,UT (by rw[Uy,VN];omega)]at o;cases o
 have Z:∀{m i k:Nat} {s:St},i<((bW d.Yt m s).1.map (kI T (aa T))).length->(aQ ((bW d.Yt m s).1.map (kI T (aa T))) i).ref=(k:Int)->∃x,x∈(bW d.Yt m s).1/\x.Yw=2/\k=av (aa T) x.Yd/\Fh d.Yt m x.Yd:=fun {m i k s} p y=>by
  rw[Uy]at p;rw[kE _ _ p]at y;have M:=oD d.Yt m s i _ (Ub p);refine⟨_,Uu p,?_⟩;unfold kI at y;rcases M with G | ⟨G,-⟩ | ⟨G,V⟩
  ·rw[Uf G]at y;simp only at y;omega
  ·rw[G,Ud (by omega),Ud (by omega)]at y;simp only at y;omega
  ·rw[G,Ud (by omega),Uf rfl]at y;simp only at y;exact⟨G,by omega,V⟩
 have ap:∀t k i:Nat,cG (zw T) t=true->i<(g9 PS t).1.st.length->(aQ (g9 PS t).1.st i).ref=(k:Int)->k<t:=fun t k i o p y=>by
  obtain⟨m,s,O,-,rfl,e⟩:=w t o;rw[e]at p y;obtain⟨x,-,-,rfl,hx⟩:=Z p y;exact gQ (IT hx) (by rw[<-R.hel.len];exact(Uk.1 O).1)
 have hV:∀n,n<d.Yt.length->(cG (zw T) (av (aa T) n)=true ↔ (ni (dX d.Yt n)).Yi=4):=fun n z=>by
  unfold cG;rw[D n z]
  show(((ni (dX d.Yt n)).Yi==4)||((ni (dX d.Yt n)).Yi==5))=true ↔ _
  have b:((ni (dX d.Yt n)).Yi==5)=false:=by
   unfold ni;split
   ·rfl
   ·next h=>exact Uz.2 h
  rw[b,VM,Vt]
 induction n using Nat.strongRecOn with
 | ind n ih =>
  intro z;have hJ:=R.hel.at_ z;by_cases g:(ni (dX d.Yt n)).Yi=4
  ·-- a valid Yn
   have P:=(hV n z).2 g;obtain⟨m,s,O,aS,hm,U⟩:=w _ P;have N:n=m:=R.inj z (Uk.1 O).1 hm;subst N;have J:dX d.Yt n=cQ d.Yt n s (cU d.Yt n):=by
    unfold dX jO;rw[O];simp only;rw[aS,Ud (by decide),Uf (by decide)]
   have A:=(DL d.Yt n s (cU d.Yt n)).1 (by rw[<-J];exact g);rw[<-J]at A
   -- what a row ahead tells
   have ai:∀m,m<n->mG (aa T) (av (aa T) m)=true->(xq (dX d.Yt m).Yi=false ↔ cG (zw T) (av (aa T) m)=true/\qm (aa T) PS (zw T) (av (aa T) m)):=fun m N H=>by
    have v:m<d.Yt.length:=(by omega);have p:=ih m N v;have a3:∀L,(jO d.Yt m L).Yi=2∨(jO d.Yt m L).Yi=3∨(jO d.Yt m L).Yi=4∨(jO d.Yt m L).Yi=5:=fun L=>by
     obtain⟨u,Y,W,-,-⟩:=R.get v;unfold mG at H;have b:=(oB W).2;rw[H]at b;have g:(u.Yw==4)=false:=(by rw[(oB W).1,cD H];decide);unfold jO;rw[Y];simp only;rw[g,b,Ud (by simp),Uf rfl];exact ye d.Yt m u L
    have ac:xq (dX d.Yt m).Yi=false ↔ (dX d.Yt m).Yi=5:=by
     rcases a3 (cU d.Yt m) with h | h | h | h <;> (unfold dX;rw[h];decide)
    have a7:(eK RS (av (aa T) m)).Yi=(dX d.Yt m).Yi:=(by rw[p];rfl);have f:=D m v;rw[ac,<-a7];by_cases c:(eK (zw T) (av (aa T) m)).Yi=4/\qm (aa T) PS (zw T) (av (aa T) m)
    ·rw[hf.yes _ (R.hel.at_ v) c.1 c.2];refine⟨fun _=>⟨?_,c.2⟩,fun _=>rfl⟩;unfold cG;rw[c.1];rfl
    ·rw[hf.no _ (R.hel.at_ v) c];constructor
     ·intro b;rw[f]at b;have b:(ni (dX d.Yt m)).Yi=5:=b;unfold ni at b;split at b
      ·cases b
      ·next h=>exact absurd b h
     ·rintro ⟨G,V⟩;refine absurd ⟨?_,V⟩ c;rw[f];exact(hV m v).1 G
   have ao:nc (cU d.Yt n) (bW d.Yt n s).1=true ↔ qm (aa T) PS (zw T) (av (aa T) n):=by
    unfold nc;rw[U5];constructor
    ·intro X
     -- the things reached
     have K:∀t,fk PS (zw T) (av (aa T) n) t->t=av (aa T) n∨(qm (aa T) PS (zw T) t/\(mG (aa T) t=true->cG (zw T) t=true)):=fun t o=>by
      refine o (fun t=>t=av (aa T) n∨(qm (aa T) PS (zw T) t/\(mG (aa T) t=true->cG (zw T) t=true))) (Us rfl) (fun t k i H V h3 g=>?_)
      right
      rcases H with rfl | ⟨M,hp⟩
      ·rw[U]at h3 g;obtain⟨x,hx,B,rfl,C⟩:=Z h3 g;have r:=IT C;have an:=X x hx;rw[B,vM d.Yt r]at an;have a2:xq (dX d.Yt x.Yd).Yi=false:=(by simpa using an);cases l:mG (aa T) (av (aa T) x.Yd)
       ·refine⟨fun u _ Y E=>?_,fun h=>by cases h⟩;have a4:cG (zw T) (av (aa T) x.Yd)=false:=by
         cases e:cG (zw T) (av (aa T) x.Yd)
         ·rfl
         ·obtain⟨m',s',al,az,a0,-⟩:=w _ e;have a1:x.Yd=m':=R.inj C.lt (Uk.1 al).1 a0;subst a1;obtain⟨ar,-,-⟩:=R.sget al;have:=(oB ar).2;rw[az]at this;unfold mG at l;rw[l]at this;cases this
        rw[Y.stop a4,l]at E;cases E
       ·obtain⟨s1,s2⟩:=(ai x.Yd r l).1 a2;exact⟨s2,fun _=>s1⟩
      ·have bc:=ap t k i V h3 g;have ag:fk PS (zw T) t k:=fk.self.step V h3 g;exact⟨fun u Y aT E=>M u (by omega) (ag.trans aT) E,fun a5=>M k (by omega) ag a5⟩
     intro t be o hp;rcases K t o with rfl | ⟨-,h⟩
     ·exact P
     ·exact h hp
    ·intro M x hx;by_cases B:x.Yw=2
     ·obtain⟨i,p,e⟩:=U7 hx;have ax:=oD d.Yt n s i x (by rw[Ub p,e]);have C:Fh d.Yt n x.Yd:=by
       rcases ax with h | ⟨h,-⟩ | ⟨-,h⟩
       ·omega
       ·omega
       ·exact h
      have r:=IT C;have ba:=C.lt;rw[B,vM d.Yt r];have af:(aQ (g9 PS (av (aa T) n)).1.st i).ref=((av (aa T) x.Yd:Nat):Int):=by
       rw[U,kE _ _ p,e];unfold kI;rw[B,Ud (by omega),Uf rfl]
      have ad:fk PS (zw T) (av (aa T) n) (av (aa T) x.Yd):=fk.self.step P (by rw[U,Uy];exact p) af;have bd:=gQ (S:=aa T) r (by rw[<-R.hel.len];exact z);cases l:mG (aa T) (av (aa T) x.Yd)
      ·obtain⟨u,Y,W,-,-⟩:=R.get ba;have b:(u.Yw==5)=false:=(by rw[(oB W).2];exact l);have:xq (dX d.Yt x.Yd).Yi=false:=by
        unfold dX jO;rw[Y];simp only;rw[b];split
        ·rfl
        ·rfl
       rw[this];rfl
      ·rw[(ai x.Yd r l).2 ⟨M _ (by omega) ad l,fun t o h hp=>M t (by omega) (ad.trans h) hp⟩];rfl
     ·rw[show(x.Yw==2)=false from Uz.2 B];rfl
   have f:=D n z;by_cases X:nc (cU d.Yt n) (bW d.Yt n s).1=true
   ·rw[Uf X]at A;rw[hf.yes _ hJ (by rw[f];exact g) (ao.1 X),f,A];have:ni { ni (dX d.Yt n) with Yi:=5 }=ni (dX d.Yt n):=by
     generalize ni (dX d.Yt n)=x at g;unfold ni;rw[Uf rfl];cases x
     simp only at g;rw[g]
    rw[this];rfl
   ·rw[Ud X]at A;rw[hf.no _ hJ (fun h=>X (ao.2 h.2)),f,<-A]
  ·have f:=D n z;rw[hf.no _ hJ (fun h=>g (by have:=h.1;rw[f]at this;exact this)),f];congr 1;unfold ni;rw[Ud];intro b;unfold ni at g;rw[Uf b]at g;exact g rfl
end
end Go.Proofs.YtnbhnocdhbcbcaaGreat
