import Derived.Test.YtnbhnocdhbcbcaaGreatG30
import Derived.Test.YtnbhnocdhbcbcaaGreatG31
namespace Go.Proofs.YtnbhnocdhbcbcaaGreat
open Go.RowKit Tryz
open Value IntKind Ending
set_option maxHeartbeats 0
variable{b n:Nat}{S:St}{y:List (jM×Hd)}{x:List fO}(w:List St)(l:Nat)(H:St)(f:List Rw)
theorem oY{l:List UInt8}{k:Int}(h:eU l k):(k==4)=(l == [36,97])/\(k==5)=(l == [36,112]):=by
 (rcases h with ⟨rfl,rfl⟩ | ⟨rfl,rfl⟩ | ⟨rfl,rfl⟩ | ⟨rfl,rfl⟩ | ⟨rfl,rfl⟩ | ⟨rfl,rfl⟩ | ⟨rfl,rfl⟩) <;> decide
def io(l:List St)(n:Nat):Rw:=lM l n (ev l n)
theorem If(k:Nat):ev w k=(List.range k).map (io w):=by
 induction k with
 | zero=>rfl
 | succ k a=>rw[ev,Ty,SF,<-a];rfl
theorem ND(h:n<b):nX (ev w b) n=(io w n).Wk:=by
 unfold nX;rw[If,RT,Sy,Un h];rfl
theorem CA:((mL (dh w l H f)).Wk=4->dh w l H f=if mH f (dK w l H).1=true then { mL (dh w l H f) with Wk:=5 } else mL (dh w l H f))/\((mL (dh w l H f)).Wk≠4->dh w l H f=mL (dh w l H f)):=by
 unfold dh kj;generalize (if(ua (dK w l H).1).isNone=true/\((dK w l H).2.1==0)=true then fE w l H (dK w l H).1 else(dK w l H).2)=b;split
 ·split
  ·exact⟨(fun h=>by cases h),fun _=>rfl⟩
  ·split
   ·exact⟨fun _=>rfl,fun h=>absurd rfl h⟩
   ·exact⟨fun _=>rfl,fun h=>absurd rfl h⟩
 ·exact⟨(fun h=>by cases h),fun _=>rfl⟩
theorem EJ:(dh w l H f).Wk=2∨(dh w l H f).Wk=3∨(dh w l H f).Wk=4∨(dh w l H f).Wk=5:=by
 unfold dh kj;generalize (if(ua (dK w l H).1).isNone=true/\((dK w l H).2.1==0)=true then fE w l H (dK w l H).1 else(dK w l H).2)=a;split
 ·split
  ·exact RZ (R4 rfl)
  ·split
   ·exact RZ (RZ (RZ rfl))
   ·exact RZ (RZ (R4 rfl))
 ·exact R4 rfl
section
variable {T:List Tk} {d:Db}
theorem gM.prf(R:gM T d)(F:sF d)(a:∀q,q<T.length->a9 T (ab T) q=0)(Q:sK T d)(f:d.Wv[b]?=some S)(l:S.kind=5):MG T (ab T) (av (ab T) b)=qy T (ab T) (dK d.Wv b S):=by
 have c:=(R8.1 f).1;obtain⟨o,-,-⟩:=R.sget f;have g:((aq (ab T) (av (ab T) b)).k.toList == [36,112])=true:=by rw[<-(oY o).2,l];rfl
 have P:=ld (dL T) a _ (R.hel.at_ c) (fB g (by decide));obtain⟨-,-,-,n⟩:=Ni P g;obtain⟨v,w⟩:=Q.pr b S f l;have y:=P.zt;have u:=P.pos;unfold MG;exact IP (fun x t=>R.use a Q.til c x t) Q.ne (fun i j p r e=>R.inj p r e) (R.hyps (R.flo F) c) (fun m s=>(GM s).lt) n (by omega) P.dot v w
theorem gM.rwIs(R:gM T d)(F:sF d)(a:∀q,q<T.length->a9 T (ab T) q=0)(Q:sK T d)(c:d.Wv[b]?=some S)(e:S.kind=5)(L:List Rw):Bu T (ab T) (av (ab T) b)=Dz (mL (dh d.Wv b S L)):=by
 have i:=(R8.1 c).1;obtain⟨-,f,g⟩:=R.sget c;unfold Bu;rw[R.prf F a Q c e];exact FX (R.py F a i) f (Q.pr b S c e).2 g L
theorem gM.base(R:gM T d)(F:sF d)(a:∀q,q<T.length->a9 T (ab T) q=0)(Q:sK T d)(i:b<d.Wv.length):mS T (ab T) (Bu T (ab T)) (av (ab T) b)=Dz (mL (io d.Wv b)):=by
 obtain⟨s,c,g,f,k⟩:=R.get i;obtain⟨j,e⟩:=oY g;unfold mS io lM;rw[c];simp only;unfold Mk mR;rw[j,e];split
 ·rw[<-f];rfl
 ·split
  ·next h=>exact R.rwIs F a Q c (by rw[<-e]at h;simpa using h) _
  ·rfl
end
theorem LX{l:List St}(h:DT l b n):n<b:=by
 obtain⟨s,c,-,a⟩:=h;unfold fg at a;rw[c]at a;simp only[Bool.and_eq_true,decide_eq_true_eq]at a;exact a.1
theorem fz.trans{c:Nat}(e:fz y x b n)(f:fz y x n c):fz y x b c:=fun P d a=>f P (e P d a) a
theorem fz.stop(h:fz y x b n)(c:di x b=false):n=b :=
 h (fun k=>k=b) rfl (fun t k i d a _ _=>by rw[d,c]at a;cases a)
def xI(T:List Tk):List fO:=(List.range (ab T).length).map (mS T (ab T) (Bu T (ab T)))
section
variable {T:List Tk} {d:Db} {PS:List (jM×Hd)} {RS:List fO}
theorem gM.rows(R:gM T d)(F:sF d)(I:∀q,q<T.length->a9 T (ab T) q=0)(Q:sK T d)(a6:PS.map (·.1)=(List.range (ab T).length).map (sg (ab T) (MG T (ab T))))(hf:oK (ab T) PS (xI T) RS (ab T).length)(n:Nat) :
  n<d.Wv.length->eR RS (av (ab T) n)=Dz (io d.Wv n):=by
 have hB:∀j,j<(ab T).length->eR (xI T) j=mS T (ab T) (Bu T (ab T)) j:=fun j hj=>by
  unfold eR xI;rw[RT,Sy,Un hj];rfl
 have D:∀n,n<d.Wv.length->eR (xI T) (av (ab T) n)=Dz (mL (io d.Wv n)):=fun n z=>by
  rw[hB _ (R.hel.at_ z),R.base F I Q z]
 -- what is sound is a theorem of the record
 have w:∀t,di (xI T) t=true->∃m s,d.Wv[m]?=some s/\s.kind=5/\t=av (ab T) m/\(jU PS t).1.st=(dK d.Wv m s).1.map (rO T (ab T)):=fun t o=>by
  by_cases hl:t<(ab T).length
  ·have H:mR (ab T) t=true:=by
    unfold di at o;rw[hB t hl]at o;cases e:mR (ab T) t
    ·unfold mS at o;rw[e]at o;split at o
     ·cases o
     ·cases o
    ·rfl
   have hk:=H;unfold mR at hk;obtain⟨m,hm,rfl⟩:=R.rcOf hl (by unfold lm;rw[hk];simp);obtain⟨s,O,W,-,-⟩:=R.get hm;have b:s.kind=5:=by
    have:=(oY W).2;rw[hk]at this;simpa using this
   refine⟨m,s,O,b,rfl,?_⟩;have e1:(jU PS (av (ab T) m)).1=sg (ab T) (MG T (ab T)) (av (ab T) m):=by
    have:(PS.map (·.1))[av (ab T) m]?=((List.range (ab T).length).map (sg (ab T) (MG T (ab T))))[av (ab T) m]?:=(by rw[a6]);rw[Sy,Sy,Un hl]at this;unfold jU;rw[RT];cases e:PS[av (ab T) m]? with
    | none=>rw[e]at this;cases this
    | some x=>rw[e]at this;exact TU this
   rw[e1];unfold sg;rw[RY H,R.prf F I Q O b];rfl
  ·exfalso
   unfold di eR xI at o;rw[RT,SG (by rw[Sn,Ul];omega)]at o;cases o
 have Z:∀{m i k:Nat} {s:St},i<((dK d.Wv m s).1.map (rO T (ab T))).length->(bK ((dK d.Wv m s).1.map (rO T (ab T))) i).ref=(k:Int)->∃x,x∈(dK d.Wv m s).1/\x.kind=2/\k=av (ab T) x.Wf/\DT d.Wv m x.Wf:=fun {m i k s} p y=>by
  rw[Sn]at p;rw[oC _ _ p]at y;have M:=AV d.Wv m s i _ (RQ p);refine⟨_,Sj p,?_⟩;unfold rO at y;rcases M with G | ⟨G,-⟩ | ⟨G,V⟩
  ·rw[RY G]at y;simp only at y;omega
  ·rw[G,RU (by omega),RU (by omega)]at y;simp only at y;omega
  ·rw[G,RU (by omega),RY rfl]at y;simp only at y;exact⟨G,by omega,V⟩
 have ap:∀t k i:Nat,di (xI T) t=true->i<(jU PS t).1.st.length->(bK (jU PS t).1.st i).ref=(k:Int)->k<t:=fun t k i o p y=>by
  obtain⟨m,s,O,-,rfl,e⟩:=w t o;rw[e]at p y;obtain⟨x,-,-,rfl,hx⟩:=Z p y;exact gD (LX hx) (by rw[<-R.hel.len];exact(R8.1 O).1)
 have hV:∀n,n<d.Wv.length->(di (xI T) (av (ab T) n)=true ↔ (mL (io d.Wv n)).Wk=4):=fun n z=>by
  unfold di;rw[D n z]
  show(((mL (io d.Wv n)).Wk==4)||((mL (io d.Wv n)).Wk==5))=true ↔ _
  have b:((mL (io d.Wv n)).Wk==5)=false:=by
   unfold mL;split
   ·rfl
   ·next h=>exact Sp.2 h
  rw[b,TV,T0]
 induction n using Nat.strongRecOn with
 | ind n ih =>
  intro z;have hJ:=R.hel.at_ z;by_cases g:(mL (io d.Wv n)).Wk=4
  ·-- a valid Wp
   have P:=(hV n z).2 g;obtain⟨m,s,O,aS,hm,U⟩:=w _ P;have N:n=m:=R.inj z (R8.1 O).1 hm;subst N;have J:io d.Wv n=dh d.Wv n s (ev d.Wv n):=by
    unfold io lM;rw[O];simp only;rw[aS,RU (by decide),RY (by decide)]
   have A:=(CA d.Wv n s (ev d.Wv n)).1 (by rw[<-J];exact g);rw[<-J]at A
   -- what a row ahead tells
   have ai:∀m,m<n->mR (ab T) (av (ab T) m)=true->(wm (io d.Wv m).Wk=false ↔ di (xI T) (av (ab T) m)=true/\pv (ab T) PS (xI T) (av (ab T) m)):=fun m N H=>by
    have v:m<d.Wv.length:=(by omega);have p:=ih m N v;have a3:∀L,(lM d.Wv m L).Wk=2∨(lM d.Wv m L).Wk=3∨(lM d.Wv m L).Wk=4∨(lM d.Wv m L).Wk=5:=fun L=>by
     obtain⟨u,Y,W,-,-⟩:=R.get v;unfold mR at H;have b:=(oY W).2;rw[H]at b;have g:(u.kind==4)=false:=(by rw[(oY W).1,cg H];decide);unfold lM;rw[Y];simp only;rw[g,b,RU (by simp),RY rfl];exact EJ d.Wv m u L
    have ac:wm (io d.Wv m).Wk=false ↔ (io d.Wv m).Wk=5:=by
     rcases a3 (ev d.Wv m) with h | h | h | h <;> (unfold io;rw[h];decide)
    have a7:(eR RS (av (ab T) m)).Wk=(io d.Wv m).Wk:=(by rw[p];rfl);have f:=D m v;rw[ac,<-a7];by_cases c:(eR (xI T) (av (ab T) m)).Wk=4/\pv (ab T) PS (xI T) (av (ab T) m)
    ·rw[hf.yes _ (R.hel.at_ v) c.1 c.2];refine⟨fun _=>⟨?_,c.2⟩,fun _=>rfl⟩;unfold di;rw[c.1];rfl
    ·rw[hf.no _ (R.hel.at_ v) c];constructor
     ·intro b;rw[f]at b;have b:(mL (io d.Wv m)).Wk=5:=b;unfold mL at b;split at b
      ·cases b
      ·next h=>exact absurd b h
     ·rintro ⟨G,V⟩;refine absurd ⟨?_,V⟩ c;rw[f];exact(hV m v).1 G
   have ao:mH (ev d.Wv n) (dK d.Wv n s).1=true ↔ pv (ab T) PS (xI T) (av (ab T) n):=by
    unfold mH;rw[Tb];constructor
    ·intro X
     -- the things reached
     have K:∀t,fz PS (xI T) (av (ab T) n) t->t=av (ab T) n∨(pv (ab T) PS (xI T) t/\(mR (ab T) t=true->di (xI T) t=true)):=fun t o=>by
      refine o (fun t=>t=av (ab T) n∨(pv (ab T) PS (xI T) t/\(mR (ab T) t=true->di (xI T) t=true))) (R4 rfl) (fun t k i H V h3 g=>?_)
      right
      rcases H with rfl | ⟨M,hp⟩
      ·rw[U]at h3 g;obtain⟨x,hx,B,rfl,C⟩:=Z h3 g;have r:=LX C;have an:=X x hx;rw[B,ND d.Wv r]at an;have a2:wm (io d.Wv x.Wf).Wk=false:=(by simpa using an);cases l:mR (ab T) (av (ab T) x.Wf)
       ·refine⟨fun u _ Y E=>?_,fun h=>by cases h⟩;have a4:di (xI T) (av (ab T) x.Wf)=false:=by
         cases e:di (xI T) (av (ab T) x.Wf)
         ·rfl
         ·obtain⟨m',s',al,az,a0,-⟩:=w _ e;have a1:x.Wf=m':=R.inj C.lt (R8.1 al).1 a0;subst a1;obtain⟨ar,-,-⟩:=R.sget al;have:=(oY ar).2;rw[az]at this;unfold mR at l;rw[l]at this;cases this
        rw[Y.stop a4,l]at E;cases E
       ·obtain⟨s1,s2⟩:=(ai x.Wf r l).1 a2;exact⟨s2,fun _=>s1⟩
      ·have bc:=ap t k i V h3 g;have ag:fz PS (xI T) t k:=fz.self.step V h3 g;exact⟨fun u Y aT E=>M u (by omega) (ag.trans aT) E,fun a5=>M k (by omega) ag a5⟩
     intro t be o hp;rcases K t o with rfl | ⟨-,h⟩
     ·exact P
     ·exact h hp
    ·intro M x hx;by_cases B:x.kind=2
     ·obtain⟨i,p,e⟩:=Tg hx;have ax:=AV d.Wv n s i x (by rw[RQ p,e]);have C:DT d.Wv n x.Wf:=by
       rcases ax with h | ⟨h,-⟩ | ⟨-,h⟩
       ·omega
       ·omega
       ·exact h
      have r:=LX C;have ba:=C.lt;rw[B,ND d.Wv r];have af:(bK (jU PS (av (ab T) n)).1.st i).ref=((av (ab T) x.Wf:Nat):Int):=by
       rw[U,oC _ _ p,e];unfold rO;rw[B,RU (by omega),RY rfl]
      have ad:fz PS (xI T) (av (ab T) n) (av (ab T) x.Wf):=fz.self.step P (by rw[U,Sn];exact p) af;have bd:=gD (S:=ab T) r (by rw[<-R.hel.len];exact z);cases l:mR (ab T) (av (ab T) x.Wf)
      ·obtain⟨u,Y,W,-,-⟩:=R.get ba;have b:(u.kind==5)=false:=(by rw[(oY W).2];exact l);have:wm (io d.Wv x.Wf).Wk=false:=by
        unfold io lM;rw[Y];simp only;rw[b];split
        ·rfl
        ·rfl
       rw[this];rfl
      ·rw[(ai x.Wf r l).2 ⟨M _ (by omega) ad l,fun t o h hp=>M t (by omega) (ad.trans h) hp⟩];rfl
     ·rw[show(x.kind==2)=false from Sp.2 B];rfl
   have f:=D n z;by_cases X:mH (ev d.Wv n) (dK d.Wv n s).1=true
   ·rw[RY X]at A;rw[hf.yes _ hJ (by rw[f];exact g) (ao.1 X),f,A];have:mL { mL (io d.Wv n) with Wk:=5 }=mL (io d.Wv n):=by
     generalize mL (io d.Wv n)=x at g;unfold mL;rw[RY rfl];cases x
     simp only at g;rw[g]
    rw[this];rfl
   ·rw[RU X]at A;rw[hf.no _ hJ (fun h=>X (ao.2 h.2)),f,<-A]
  ·have f:=D n z;rw[hf.no _ hJ (fun h=>g (by have:=h.1;rw[f]at this;exact this)),f];congr 1;unfold mL;rw[RU];intro b;unfold mL at g;rw[RY b]at g;exact g rfl
theorem gM.told(R:gM T d)(F:sF d)(a:∀q,q<T.length->a9 T (ab T) q=0)(Q:sK T d)(f:PS.map (·.1)=(List.range (ab T).length).map (sg (ab T) (MG T (ab T))))(o:oK (ab T) PS (xI T) RS (ab T).length) :
  pF RS=((ev d.Wv d.Wv.length).filter rs).map Dz:=by
 have b:=o.tell;have l:=R.rows F a Q f o;have g:RS=(List.range (ab T).length).map (eR RS):=by
  apply TY;intro i;rw[Sy];by_cases h:i<(ab T).length
  ·rw[Un h,v8 RS i (by rw[b.len];exact h)];rfl
  ·rw[SG (by rw[b.len];omega),SG (by rw[Ul];omega)];rfl
 have p:pF RS=((List.range (ab T).length).filter (fun j=>bne (eR RS j).Wk 0)).map (eR RS):=by
  unfold pF;rw[g,Wb,<-g];rfl
 rw[p,<-uH (m:=d.Wv.length) (q:=fun n=>rs (io d.Wv n)) R.hel.len (fun j r h=>?_) (fun n c=>?_),If,Wb,V6,V6]
 ·apply Ux;intro n c;exact l n (Sd.1 (SD.1 c).1)
 ·cases e:ay (aq (ab T) j).k
  ·rw[b.no j r e]at h;cases h
  ·unfold lm;unfold ay at e;simp only[Bool.or_eq_true]at e ⊢;rcases e with h | h
   ·exact R4 (RZ h)
   ·exact RZ h
 ·rw[l n c];rfl
end
end Go.Proofs.YtnbhnocdhbcbcaaGreat
