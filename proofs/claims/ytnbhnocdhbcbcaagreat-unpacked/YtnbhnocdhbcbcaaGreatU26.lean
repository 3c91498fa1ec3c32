import Derived.Test.YtnbhnocdhbcbcaaGreatU12
import Derived.Test.YtnbhnocdhbcbcaaGreatU25
namespace Go.Proofs.YtnbhnocdhbcbcaaGreat
open Go.RowKit Tryz
open Value IntKind Ending
set_option maxHeartbeats 0
variable{p:List UInt8}{r:Xs}{b o:Nat}{m:St}{z0:Db}{u:Fs}{q:Im}{g:List Tk×List Bool}{z:List Tk}(k:List Tk)(x:Tk)(i:List Tk)(B:Db)(w:Fs)(y:Xs)(v:Int)(I:List St)(N:Nat)(L:Xt)(n H:Nat)(f:Xs)
theorem xe:(y++f).toList=y.toList++f.toList:=by
 rw[US,US,US,ByteArray.data_append,Array.toList_append]
theorem nB:(⟨#[]⟩:Xs).toList=[]:=by rw[US]
theorem Cw(u:UInt8):(⟨#[u]⟩:Xs).toList=[u]:=by rw[US]
def kH(D:List UInt8):Nat:=D.foldl (fun v c=>v*5+(c.toNat-84)) 0
theorem tx(D:List UInt8)(c:UInt8):kH (D++[c])=kH D*5+(c.toNat-84):=by
 unfold kH;rw[VY];rfl
def digs:Nat->Nat->List UInt8
 | 0,_=>[]
 | f+1,h=>if 0<h then digs f ((h-1) / 5)++[UInt8.ofNat (85+(h-1) % 5)] else []
theorem FX(f:Nat):∀h s,(v9 f h s).toList=digs f h++s.toList:=by
 induction f with
 | zero=>intro h s;rfl
 | succ f a =>
  intro h s;rw[v9,digs];split
  ·rw[a,xe,FZ,Cw,Vs]
  ·rfl
theorem Ih(f:Nat):∀h,h<=f->kH (digs f h)=h:=by
 induction f with
 | zero=>intro h a;rw[show h=0 by omega];rfl
 | succ f b =>
  intro h a;rw[digs];split
  ·rw[tx,b _ (by omega),UInt8.toNat_ofNat'];omega
  ·rw[show h=0 by omega];rfl
def Jz(D:List UInt8):Prop:=∀c∈D,85<=c.toNat/\c.toNat<=89
theorem xF(D:List UInt8):∀f,Jz D->kH D<=f->digs f (kH D)=D:=by
 induction h:D.length generalizing D with
 | zero =>
  intro f _ _;rw[Ws.1 h];cases f <;> rfl
 | succ n g =>
  intro f a b;obtain⟨E,c,rfl⟩:∃E c,D=E++[c]:=⟨D.dropLast,D.getLast (by intro e;rw[e]at h;simp at h),(WB _).symm⟩
  have i:=a c (by simp);rw[tx]at b ⊢;cases f with
  | zero=>omega
  | succ f =>
   rw[digs,Uf (by omega),show(kH E*5+(c.toNat-84)-1) / 5=kH E by omega,g E (by simpa using h) f (fun x d=>a x (by simp[d])) (by omega)];congr 1;rw[show 85+(kH E*5+(c.toNat-84)-1) % 5=c.toNat by omega,UInt8.ofNat_toNat]
theorem Ii(a:Jz p):kH p=0 ↔ p=[]:=by
 constructor
 ·intro h;have:=xF p 0 a (by omega);rw[<-this];rfl
 ·rintro rfl;rfl
theorem NM{c:UInt8}(j:r.toList=p++[c])(g:Jz p)(k:65<=c.toNat/\c.toNat<=84)(i:Nat):yp r i=true ↔ i=kH p*20+(c.toNat-65):=by
 unfold yp mI;rw[Vt,FX,j,Qc,Cw];constructor
 ·intro h;obtain⟨d,f⟩:=List.append_inj' h rfl;have e:=Ih (i+1) (i / 20) (by omega);rw[d]at e;have a:(UInt8.ofNat (65+i % 20)).toNat=c.toNat:=by rw[Yb f |>.1]
  rw[UInt8.toNat_ofNat']at a;omega
 ·intro h;have b:i / 20=kH p:=by omega
  have a:65+i % 20=c.toNat:=by omega
  rw[b,a,xF p _ g (by omega),UInt8.ofNat_toNat]
theorem KO{s:Xs}{D:List UInt8}{c:UInt8}(g:s.toList=D++[c])(e:Jz D)(f:65<=c.toNat/\c.toNat<=84)(a:Nat):gu s a=if kH D*20+(c.toNat-65)<a then kH D*20+(c.toNat-65)+1 else 0:=by
 unfold gu;split
 ·next i h =>
  have j:=(NM g e f i).1 (VP h);have d:=Up.1 (UV h);rw[j]at d ⊢;rw[Uf d]
 ·next h =>
  rw[Ud];intro b;rw[U8]at h;exact h _ (Up.2 b) ((NM g e f _).2 rfl)
def kI(T:List Tk)(S:List Sm)(s:jg):ci :=
 if s.Yw=1 then⟨-1,0,0,s.at_.YB,s.at_.YC,s.at_.YD⟩
 else if s.Yw=2 then⟨(av S s.Yd:Nat),0,fL T S (av S s.Yd:Nat),s.at_.YB,s.at_.YC,s.at_.YD⟩
 else⟨-2,s.Yd,0,s.at_.YB,s.at_.YC,s.at_.YD⟩
def rs(T:List Tk)(S:List Sm)(q:List jg×pJ):jW:=⟨q.1.map (kI T S),q.2.1,q.2.2.YB,q.2.2.YC,q.2.2.YD⟩
def LP(x:Nat×Pl):Lt:=⟨(x.1:Int),x.2.YB,x.2.YC,x.2.YD⟩
def yk(x:Xs×Pl):List (Nat×Pl):=(List.range x.1.size).map (fun j=>((aH x.1 j).toNat,{ x.2 with YD:=x.2.YD+j }))
def BE:List (Nat×Pl)->lK->pJ×lK
 | [],c=>(dh,c)
 | x :: r,c=>if((bF c x.1 x.2).1==0)=true then BE r (bF c x.1 x.2).2 else(((bF c x.1 x.2).1,x.2),(bF c x.1 x.2).2)
theorem PJ(A B:List (Nat×Pl)):∀c,BE (A++B) c=if((BE A c).1.1==0)=true then BE B (BE A c).2 else BE A c:=by
 induction A with
 | nil=>intro c;rw[Wz,BE,Uf (by rfl)]
 | cons x r a =>
  intro c;rw[Wc,BE,BE];split
  ·exact a _
  ·rfl
theorem Ia(p:Pl)(k:Nat):∀a j c,j+k=f.size->k<a->ic f p a j c=BE ((List.range' j k).map (fun j=>((aH f j).toNat,{ p with YD:=p.YD+j }))) c:=by
 induction k with
 | zero =>
  intro a j c h b;cases a with
  | zero=>omega
  | succ a=>rw[ic,Ud (by omega)];rfl
 | succ k d =>
  intro a j c h b;cases a with
  | zero=>omega
  | succ a =>
   rw[ic,Uf (by omega),List.range'_succ,VW,BE,d a (j+1) _ (by omega) (by omega)]
theorem OY(x:Xs×Pl)(c:lK):mq x.1 x.2 c=BE (yk x) c:=by
 unfold mq yk;rw[Ia x.1 x.2 x.1.size _ 0 c (by omega) (by omega),List.range_eq_range']
theorem Bb(a:List (Xs×Pl)):∀c,qj a c=BE (a.flatMap yk) c:=by
 induction a with
 | nil=>intro c;rfl
 | cons x r b =>
  intro c;obtain⟨t,p⟩:=x;rw[qj,U4,PJ,OY (t,p) c,b]
structure Q6(T:List Tk)(S:List Sm)(refs:Xv)(c:lK)(P:List ci)(tags:Xv)(num:Xs)(fr:Bool):Prop where
 st:P=c.steps.map (kI T S)
 tg:tags=c.Yp
 rf:refs=c.Yz.map (av S)
 fr:fr=c.behind
 dg:Jz num.toList
 wo:c.Yj=kH num.toList∨(c.Yz.length+c.Yp.length<c.Yj/\c.Yz.length+c.Yp.length<kH num.toList)
 no:c.behind=true->num.toList=[]
theorem Bu:(wO (H:Int)).toList=[UInt8.ofNat H]:=by
 unfold wO;rw[Cw,UR]
theorem Cz(h:b<256):(UInt8.ofNat b).toNat=b:=by rw[UInt8.toNat_ofNat'];omega
section
variable {T:List Tk} {S:List Sm} {refs:Xv} {c:lK} {P:List ci} {tags:Xv} {num:Xs} {fr:Bool}
theorem Q6.zero(E:Q6 T S refs c P tags num fr):c.Yj=0 ↔ num.toList=[]:=by
 rw[<-Ii E.dg];rcases E.wo with h | ⟨a,b⟩ <;> omega
theorem Q6.digit(E:Q6 T S refs c P tags num fr)(g:85<=b/\b<=89):Q6 T S refs (jS c (b-84)) P tags (num++wO (b:Int)) false:=by
 have a:Jz (num++wO (b:Int)).toList:=by
  rw[xe,Bu];intro x i;rcases UG.1 i with h | h
  ·exact E.dg x h
  ·rw[Uq.1 h,Cz (by omega)];exact g
 have d:kH (num++wO (b:Int)).toList=kH num.toList*5+(b-84):=by rw[xe,Bu,tx,Cz (by omega)]
 unfold jS;split
 ·next h =>
  refine⟨E.st,E.tg,E.rf,rfl,a,?_,fun h=>by cases h⟩;rw[d];rcases E.wo with w | ⟨e,f⟩
  ·exact Us (by show c.Yj*5+(b-84)=_;rw[w])
  ·omega
 ·next h =>
  refine⟨E.st,E.tg,E.rf,rfl,a,Uo ?_,fun h=>by cases h⟩;rw[d];show _<c.Yj/\_;have:c.Yz.length+c.Yp.length<kH num.toList:=by rcases E.wo with w | ⟨e,f⟩ <;> omega
  exact⟨by show c.Yz.length+c.Yp.length<c.Yj;omega,by show c.Yz.length+c.Yp.length<_;omega⟩
theorem Q6.numb(E:Q6 T S refs c P tags num fr)(d:65<=b/\b<=84)(a:Nat):gu (num++wO (b:Int)) a=if kH num.toList*20+(b-65)<a then kH num.toList*20+(b-65)+1 else 0:=by
 have:=KO (s:=num++wO (b:Int)) (D:=num.toList) (c:=UInt8.ofNat b) (by rw[xe,Bu]) E.dg (by rw[Cz (by omega)];exact d) a;rw[Cz (by omega)]at this;exact this
end
theorem F0(S:List Sm)(s:Pl)(X:List (Nat×Pl)):∀(a:Xv) (c:lK) (P:List ci) (b:Xv) (d:Xs) (t:Bool),Q6 i S a c P b d t ->
  mP i S a (LP (0,s)) (X.map LP) P b d t=rs i S (nP s (BE X c)):=by
 induction X with
 | nil =>
  intro a c P b d t E;have e:nP s (dh,c)=(if c.Yj=0 then(if c.steps.length=0 then([],(1,s)) else(c.steps,dh)) else([],(4,s))):=rfl;rw[XE,mP,BE,e];by_cases h:c.Yj=0
  ·have g:d.toList=[]:=E.zero.1 h;rw[g,Ud (by simp),Uf h,E.st,Uy];split
   ·rfl
   ·rfl
  ·have g:¬d.toList=[]:=fun e=>h (E.zero.2 e);rw[Uf (Uz.2 g),Ud h];rfl
 | cons x r A =>
  intro a c P b d t E;obtain⟨n,p⟩:=x;have v:=E.st;have l:=E.tg;have q:=E.rf;have G:=E.fr;rw[VW,mP,BE,show(LP (n,p)).c=(n:Int) from rfl]
  show(if 85<=(n:Int)/\(n:Int)<=89 then _ else _)=_
  by_cases u:85<=n/\n<=89
  ·have e:bF c n p=(0,jS c (n-84)):=(by unfold bF;rw[Ud (by omega),Uf u]);rw[Uf (by omega),e,Uf (by rfl)];exact A _ _ _ _ _ _ (E.digit u)
  rw[Ud (by omega)]
  show(if 65<=(n:Int)/\(n:Int)<=84 then _ else _)=_
  by_cases g:65<=n/\n<=84
  ·have y:a.length=c.Yz.length:=(by rw[q,Uy]);have j:c.Yj*20+(n-64)-1=c.Yj*20+(n-65):=(by omega);have e:bF c n p=fn c (n-64) p:=(by unfold bF;rw[Uf g]);have k:=E.numb g (a.length+b.length);rw[Uf (by omega),e]
   show(if gu (d++wO (n:Int)) (a.length+b.length)=0 then _ else _)=_
   rcases E.wo with w | ⟨L,M⟩
   ·rw[<-w]at k;by_cases C:c.Yj*20+(n-65)<c.Yz.length
    ·have m:fn c (n-64) p=(0,{ dO { c with Yj:=0 } ⟨2,c.Yz.getD (c.Yj*20+(n-65)) 0,p⟩ with behind:=true }):=(by unfold fn;rw[j,Uf C]);rw[Uf (by rw[y];omega)]at k;rw[k,Ud (by omega),m,Uf (by rfl)];refine A _ _ _ _ _ _ ⟨?_,l,q,rfl,(fun x z=>by rw[nB]at z;cases z),Us (by rw[nB];rfl),fun _=>nB⟩;show _=(c.steps++[_]).map _;rw[UJ,v];congr 1;unfold p9;rw[Uf (by omega),Vj];have I:a.getD (c.Yj*20+(n-65)) 0=av S (c.Yz.getD (c.Yj*20+(n-65)) 0):=by
      rw[q,Uc,Uc,UL,Ub C];rfl
     rw[I];rfl
    ·by_cases H:c.Yj*20+(n-65)-c.Yz.length<c.Yp.length
     ·have m:fn c (n-64) p=(0,{ dO { c with Yj:=0 } ⟨3,c.Yp.getD (c.Yj*20+(n-65)-c.Yz.length) 0,p⟩ with behind:=true }):=(by unfold fn;rw[j,Ud C,Uf H]);rw[Uf (by rw[y,l];omega)]at k;rw[k,Ud (by omega),m,Uf (by rfl)];refine A _ _ _ _ _ _ ⟨?_,l,q,rfl,(fun x z=>by rw[nB]at z;cases z),Us (by rw[nB];rfl),fun _=>nB⟩;show _=(c.steps++[_]).map _;rw[UJ,v];congr 1;unfold p9;rw[Ud (by omega),y,l,show c.Yj*20+(n-65)+1-c.Yz.length-1=c.Yj*20+(n-65)-c.Yz.length by omega];rfl
     ·have m:fn c (n-64) p=(5,{ c with Yj:=0 }):=(by unfold fn;rw[j,Ud C,Ud H]);rw[Ud (by rw[y,l];omega)]at k;rw[k,Uf rfl,m,Ud (by simp)];rfl
   ·have m:fn c (n-64) p=(5,{ c with Yj:=0 }):=(by unfold fn;rw[j,Ud (by omega),Ud (by omega)]);rw[Ud (by rw[y,l];omega)]at k;rw[k,Uf rfl,m,Ud (by simp)];rfl
  rw[Ud (by omega)]
  show(if(n:Int)=90/\t=true then _ else _)=_
  by_cases o:n=90/\c.behind=true
  ·have e:bF c n p=(0,{ c with Yp:=c.Yp++[c.steps.length-1],behind:=false }):=(by unfold bF;rw[Ud g,Ud u,Uf o]);rw[Uf ⟨by omega,by rw[G];exact o.2⟩,e,Uf (by rfl)];refine A _ _ _ _ _ _ ⟨v,?_,q,rfl,E.dg,Us ?_,fun h=>by cases h⟩
   ·rw[l,v,Uy]
   ·show c.Yj=_;have F:=E.no o.2;rw[E.zero.2 F,F];rfl
  rw[Ud (fun h=>o ⟨by have:=h.1;omega,by rw[<-G];exact h.2⟩)]
  show(if(n:Int)=63/\(d.toList == [])=true then _ else _)=_
  by_cases B:n=63/\c.Yj=0
  ·have e:bF c n p=(0,dO c ⟨1,0,p⟩):=(by unfold bF;rw[Ud g,Ud u,Ud o,Uf B]);rw[Uf ⟨by omega,by rw[E.zero.1 B.2];rfl⟩,e,Uf (by rfl)];refine A _ _ _ _ _ _ ⟨?_,l,q,rfl,E.dg,E.wo,fun h=>by cases h⟩;show _=(c.steps++[_]).map _;rw[UJ,v];rfl
  ·have e:bF c n p=(4,c):=(by unfold bF;rw[Ud g,Ud u,Ud o,Ud B]);have J:¬((n:Int)=63/\(d.toList == [])=true):=fun h=>B ⟨by omega,E.zero.2 (by simpa using h.2)⟩;rw[Ud J,e,Ud (by simp)];rfl
def nz(t:Tk):Pl:=⟨t.YB,t.YC,t.YD⟩
def Tp(t:Tk):Xs×Pl:=(t.s,nz t)
def jG(T:List Tk)(b z:Nat):List (Xs×Pl):=((T.drop b).take (z-b)).map Tp
theorem E5:(jG i N n).drop H=jG i (N+H) n:=by
 unfold jG;rw[<-List.map_drop,List.drop_take,List.drop_drop,show n-N-H=n-(N+H) by omega]
theorem zp(h:n<H)(a:H<=i.length):jG i n H=(tS i n,nz (i.getD n gO)) :: jG i (n+1) H:=by
 unfold jG;rw[UB (by omega),show H-n=(H-(n+1))+1 by omega,XC,VW];congr 1;unfold Tp tS;rw[Uc,Ub (by omega)];rfl
theorem xf:jG i H H=[]:=by unfold jG;rw[U3,V4];rfl
theorem Jt(a:H<=k.length):jG (k++i) n H=jG k n H:=by
 unfold jG;by_cases h:n<=k.length
 ·rw[U9 h,Vg (by rw[UX];omega)]
 ·rw[show H-n=0 by omega,V4,V4]
theorem OW(a:H<=k.length):jG (k++[x]) H (k++[x]).length=jG k H k.length++[Tp x]:=by
 unfold jG;rw[U9 a,VG (by simp;omega),VG (by rw[UX];exact Ue _),UJ];rfl
structure tB(T:List Tk)(d:Db):Prop where
 ne:∀q,q<T.length->((tS T q).toList == [])=false
 til:∀(n:Nat) (s:St),d.Yt[n]?=some s->ph s.Yw=true->s.til=0
 pr:∀(n:Nat) (s:St),d.Yt[n]?=some s->s.Yw=5->s.Yn=jG T ((aq (aa T) (av (aa T) n)).h+(bA T (aq (aa T) (av (aa T) n)).h).length+1) ((aq (aa T) (av (aa T) n)).z-1)/\s.YA=nz (T.getD ((aq (aa T) (av (aa T) n)).z-1) gO)
 op:d.Yn=if d.Yg=true then jG T ((eu T (fD T)).2+d.Yc.length+1) T.length else []
section
variable {T:List Tk} {t:Tk} {d d':Db}
theorem Tj(B:Xt)(h:aJ B ⟨#[36,61]⟩=true):(B.takeWhile jE).length<B.length:=by
 induction B with
 | nil=>cases h
 | cons x r c =>
  cases e:jE x
  ·rw[V5 (by rw[e];simp)];simp
  ·rw[VL e];have b:aJ r ⟨#[36,61]⟩=true:=by
    unfold aJ at h ⊢;rw[Wp,UO]at h;rcases h with h | h
    ·exfalso
     have a:x.toList=(⟨#[36,61]⟩:Xs).toList:=(by simpa using h);unfold jE at e;rw[a]at e;exact absurd e (by decide +kernel)
    ·exact h
   have:=c b;simp only[List.length_cons];omega
theorem tB.old(Q:tB T d)(R:gw T d){M:List Sm}{a:St}(f:d.Yt[b]?=some m)(e:av (aa T++M) b=av (aa T) b)(g:a.Yw=m.Yw)(i:a.Yn=m.Yn)(j:a.YA=m.YA)(l:a.Yw=5) :
  a.Yn=jG (T++[t]) ((aq (aa T++M) (av (aa T++M) b)).h+(bA (T++[t]) (aq (aa T++M) (av (aa T++M) b)).h).length+1) ((aq (aa T++M) (av (aa T++M) b)).z-1)/\a.YA=nz ((T++[t]).getD ((aq (aa T++M) (av (aa T++M) b)).z-1) gO):=by
 have o:=(Uk.1 f).1;have c:=R.hel.at_ o;obtain⟨p,q⟩:=Q.pr b m f (by rw[<-g];exact l);obtain⟨-,-,-,k⟩:=R.ct b m f;obtain⟨P,r⟩:=(dN T).s _ c;have n:=P.lt;rw[e,jQ _ _ _ c,i,j,qE T [t] _ k,Jt T [t] _ _ (by omega),p,q];refine⟨rfl,?_⟩;rw[Uc,Uc,Uv (by omega)]
theorem tB.nes(Q:tB T d)(b:(t.s.toList == [])=false):∀q,q<(T++[t]).length->((tS (T++[t]) q).toList == [])=false:=fun q a=>by
 by_cases h:q<T.length
 ·rw[fY T [t] q h];exact Q.ne q h
 ·rw[Uh,Wa]at a;rw[show q=T.length by omega,oE];exact b
theorem tB.Yh(Q:tB T d)(R:gw T d)(j:(t.s.toList == [])=false)(g:cd t.s=false)(c:d'.Yt=d.Yt)(b:d'.Yn=if d'.Yg=true then jG (T++[t]) ((eu (T++[t]) (fD T)).2+d'.Yc.length+1) (T++[t]).length else []):tB (T++[t]) d':=by
 obtain⟨e,f⟩:=ma (T:=T) (t:=t) g;refine⟨Q.nes j,fun n s a=>?_,fun n s a i=>?_,by rw[f];exact b⟩
 ·rw[c]at a;exact Q.til n s a
 ·rw[c]at a;have:=Q.old (t:=t) R (M:=[]) a (by rw[UE]) rfl rfl rfl i;rw[UE]at this;rw[e];exact this
theorem tB.other(Q:tB T d)(R:gw T d)(q:(t.s.toList == [])=false)(j:Sm)(o:aa (T++[t])=aa T++[j])(b:∀(n:Nat) (c:St),d'.Yt[n]?=some c->∃s,d.Yt[n]?=some s/\c.Yw=s.Yw/\c.Yn=s.Yn/\c.YA=s.YA/\(ph s.Yw=true->c.til=s.til))(a:d'.Yn=[]/\d'.Yg=false):tB (T++[t]) d':=by
 refine⟨Q.nes q,fun n s i g=>?_,fun n s i p=>?_,by rw[a.1,a.2];rfl⟩
 ·obtain⟨u,e,f,-,-,m⟩:=b n s i;rw[f]at g;rw[m g];exact Q.til n u e g
 ·obtain⟨u,e,f,k,l,-⟩:=b n s i;rw[o];exact Q.old R e (R.hel.ix j (Uk.1 e).1) f k l p
theorem tB.first(Q:tB T d)(R:gw T d)(f:(t.s.toList == [])=false)(x:fD T=T.length)(b:d.Yg=false)(a:(ay d t.s).1=0):tB (T++[t]) (ay d t.s).2:=by
 have r:d.Yn=[]:=by rw[Q.op,b];rfl
 have i:d.Yn=if d.Yg=true then jG (T++[t]) ((eu (T++[t]) (fD T)).2+d.Yc.length+1) (T++[t]).length else []:=by rw[r,b];rfl
 have e:∀(n:Nat) (c:St),d.Yt[n]?=some c->∃s,d.Yt[n]?=some s/\c.Yw=s.Yw/\c.Yn=s.Yn/\c.YA=s.YA/\(ph s.Yw=true->c.til=s.til):=fun n c h=>⟨c,h,rfl,rfl,rfl,fun _=>rfl⟩
 unfold ay at *;by_cases k:(t.s.toList == [36,123])=true
 ·rw[Uf k];obtain⟨j,-⟩:=nF (T:=T) (t:=t) x (by rw[(j7 (dw k)).2.2];decide);exact Q.other R f _ j e ⟨r,b⟩
 rw[Ud k]at a ⊢;by_cases l:(t.s.toList == [36,125])=true
 ·rw[Uf l]at a ⊢;cases A:d.Yy.getLast? with
  | none=>rw[A]at a;cases a
  | some q =>
   simp only;obtain⟨j,-⟩:=nF (T:=T) (t:=t) x (by rw[(j7 (dw l)).2.2];decide);refine Q.other R f _ j (fun n c g=>?_) (by unfold dc dA;split <;> exact⟨r,b⟩);unfold dc dA at g;split at g
   ·exact e n c g
   ·obtain⟨v,B,C⟩:=pb g;refine⟨v,B,?_⟩;rw[C];split
    ·unfold lR;split
     ·next h=>exact⟨rfl,rfl,rfl,fun w=>by rw[h.2]at w;cases w⟩
     ·exact⟨rfl,rfl,rfl,fun _=>rfl⟩
    ·exact⟨rfl,rfl,rfl,fun _=>rfl⟩
 rw[Ud l]at a ⊢;by_cases m:(t.s.toList == [36,99])=true
 ·rw[Uf m]at a ⊢;by_cases y:0<d.Yy.length
  ·rw[Uf y]at a;cases a
  ·rw[Ud y];exact Q.Yh R f (fQ m (by decide)) rfl i
 rw[Ud m]at a ⊢;by_cases o:(t.s.toList == [36,118])=true
 ·rw[Uf o];exact Q.Yh R f (fQ o (by decide)) rfl i
 rw[Ud o]at a ⊢;by_cases p:(t.s.toList == [36,100])=true
 ·rw[Uf p];exact Q.Yh R f (fQ p (by decide)) rfl i
 rw[Ud p]at a ⊢;split at a
 ·cases a
 ·next z =>
  rw[Ud z];unfold bU at *;cases u:dD t.s
  ·rw[u,Ud (by simp)]at a;split at a
   ·cases a
   ·next D =>
    split at a
    ·cases a
    ·next E =>
     rw[Ud (by simp),Ud D,Ud E];exact Q.Yh R f (rF u) rfl i
  ·rw[u,Uf rfl]at a;cases a
theorem tB.key(Q:tB T d)(R:gw T d)(c:(t.s.toList == [])=false)(b:d.Yg=false)(a:(aI d t.s).1=0):tB (T++[t]) (aI d t.s).2:=by
 have k:d.Yn=[]:=by rw[Q.op,b];rfl
 have e:d.Yn=if d.Yg=true then jG (T++[t]) ((eu (T++[t]) (fD T)).2+d.Yc.length+1) (T++[t]).length else []:=by rw[k,b];rfl
 unfold aI at *;split
 ·next h=>exact Q.Yh R c (fQ h (by decide)) rfl e
 ·next f =>
  rw[Ud f]at a;split
  ·next h=>exact Q.Yh R c (fQ h (by decide)) rfl e
  ·next g =>
   rw[Ud g]at a;split
   ·next h=>exact Q.Yh R c (fQ h (by decide)) rfl e
   ·next i =>
    rw[Ud i]at a;split
    ·next h=>exact Q.Yh R c (fQ h (by decide)) rfl e
    ·next j=>rw[Ud j]at a;cases a
theorem tB.body(Q:tB T d)(R:gw T d)(x:(t.s.toList == [])=false){B:Xt}(I:eu T (fD T)=(r,b))(w:fD T<b)(G:b<=T.length)(C:fw r.toList d.Yw)(N:eJ T b T.length=B)(p:d.Yg=aJ B ⟨#[36,61]⟩)(m:d.Yc=B.takeWhile jE)(c:(aZ d t.s (nz t)).1=0):tB (T++[t]) (aZ d t.s (nz t)).2:=by
 have v:(eu (T++[t]) (fD T)).2=b:=by rw[pi I w G C]
 have f:=Q.op;rw[I]at f;simp only at f;have E:B.length=T.length-b:=by rw[<-N,mt,Uy,UX]
 have F:d.Yg=true->b+d.Yc.length+1<=T.length:=fun h=>by
  have:=Tj B (by rw[<-p];exact h);rw[<-m]at this;omega
 rw[pA C]at *;by_cases z:(t.s.toList == [36,46])=true
 ·rw[Uf z]at *;obtain⟨U,-⟩:=Ca z;obtain⟨y,-⟩:=oc T t;rw[Uf U,pi I w G C]at y;simp only at y;have l:bA (T++[t]) b=d.Yc:=by
   unfold bA;rw[U9 G,tM _ t (fun u V=>?_) z,m,<-N,mt];have:=vt T b (by omega) u V;unfold cd at this;simp only[Bool.or_eq_false_iff]at this;exact this.1.1
  unfold mC at *;split at c
  ·cases c
  ·next P =>
   rw[Ud P];split at c
   ·cases c
   ·next k =>
    rw[Ud k];simp only;cases a:((d.Yw==7)||(d.Yw==8))
    ·simp only[Bool.or_eq_false_iff]at a;have D:(aW d (nz t)).Yt=d.Yt++[⟨d.Yw,d.Yx,d.Yc,d.Yn,nz t,0⟩]:=by
      unfold aW nM oe;rw[a.1,a.2];simp only[Bool.false_eq_true,if_false];split <;> rfl
     have L:lM (aa T++[(⟨fD T,T.length+1,b,r⟩:Sm)]) (aa T).length=true:=(by rw[ud];show _=true;rw[DM C,a.1,a.2];rfl);have M:∀{n:Nat} {s:St},(aW d (nz t)).Yt[n]?=some s->d.Yt[n]?=some s∨(n=d.Yt.length/\s=⟨d.Yw,d.Yx,d.Yc,d.Yn,nz t,0⟩):=fun {n s} i=>by
      rw[D]at i;by_cases J:n<d.Yt.length
      ·rw[Uv J]at i;exact Us i
      ·have e:n=d.Yt.length:=by
        have:=(Uk.1 i).1;rw[Uh,Wa]at this;omega
       subst e;rw[Ur (Ue _),U3]at i;exact Uo ⟨rfl,(Vw i).symm⟩
     refine⟨Q.nes x,fun n s i S=>?_,fun n s i j=>?_,rfl⟩
     ·rcases M i with h | ⟨-,h⟩
      ·exact Q.til n s h S
      ·rw[h]
     ·rw[y];rcases M i with h | ⟨J,h⟩
      ·exact Q.old R h (R.hel.ix _ (Uk.1 h).1) rfl rfl rfl j
      ·subst J;have O:av (aa T++[(⟨fD T,T.length+1,b,r⟩:Sm)]) d.Yt.length=(aa T).length:=by
        unfold av;rw[nG,Uf L,R.hel.len,Uc,Ur (Ue _),U3];rfl
       rw[O,lF];simp only;rw[h]at j ⊢;simp only at j ⊢;have H:d.Yg=true:=by
        cases e:d.Yg
        ·exact absurd ⟨by rw[j];rfl,e⟩ k
        ·rfl
       rw[l,Vj,Jt T [t] _ _ (Ue _),f,H,Uf rfl];refine⟨rfl,?_⟩;rw[Uc,Ur (Ue _),U3];rfl
    ·have D:(aW d (nz t)).Yt=d.Yt:=by
      unfold aW eG;rw[UO]at a;split
      ·rfl
      ·next q=>rw[Uf (a.resolve_left q)]
     exact Q.other R x _ y (fun n W h=>⟨W,by rw[<-D];exact h,rfl,rfl,rfl,fun _=>rfl⟩) ⟨rfl,rfl⟩
 ·rw[Ud z]at *;by_cases o:(t.s.toList == [36,61])=true/\(d.Yw==5)=true/\d.Yg=false
  ·rw[Uf o]at *;unfold cC at *;split at c
   ·cases c
   ·next g =>
    rw[Ud g];refine Q.Yh R x (fQ o.1 (by decide)) rfl ?_;show d.Yn=if true=true then _ else _;rw[Uf rfl,f,o.2.2,Ud (by simp),v];have K:aJ B ⟨#[36,61]⟩=false:=by rw[<-p];exact o.2.2
    have:d.Yc.length=T.length-b:=(by rw[m,ua B K,E]);show _=jG (T++[t]) (b+d.Yc.length+1) (T++[t]).length;rw[this,Uh,Wa,show b+(T.length-b)+1=T.length+1 by omega,xf]
  ·rw[Ud o]at *;cases A:dD t.s
   ·rw[A,Ud (by simp)]at c;rw[Ud (by simp)];split at c
    ·next g =>
     rw[Uf g];refine Q.Yh R x (rF A) rfl ?_;show d.Yn++[(t.s,nz t)]=if d.Yg=true then _ else _;rw[f,Uf g,Uf g,v];exact(OW T t _ (F g)).symm
    ·next g =>
     rw[Ud g];split at c
     ·next k =>
      rw[Uf k];refine Q.Yh R x (rF A) rfl ?_;show d.Yn=if d.Yg=true then _ else _;rw[f,Ud g,Ud g]
     ·next k=>simp only at c;rw[c]at k;exact absurd rfl k
   ·rw[A,Uf rfl]at c;cases c
theorem tB.step(Q:tB T d)(m:uN T d)(R:gw T d)(i:(t.s.toList == [])=false)(c:(aZ d t.s (nz t)).1=0):tB (T++[t]) (aZ d t.s (nz t)).2:=by
 rcases m with ⟨k,f,b,a,l⟩ | ⟨k,f,b,a,l,r,q⟩ | ⟨v,j,B,f,g,p,o,n,a,b,u,l,w⟩
 ·have e:aZ d t.s (nz t)=ay d t.s:=by unfold aZ;rw[f];rfl
  rw[e]at c ⊢;exact Q.first R i k a c
 ·have e:aZ d t.s (nz t)=aI d t.s:=by unfold aZ;rw[f];rfl
  rw[e]at c ⊢;exact Q.key R i a c
 ·exact Q.body R i f g p o n a b c
end
theorem Se(h:z0=⟨[],[],[],[],[],[],[],[],0,⟨#[]⟩,[],false,[]⟩):tB [] z0:=by
 subst h;exact⟨fun q a=>(by simp at a),(fun n s h=>by cases h),(fun n s h=>by cases h),rfl⟩
section
variable {T:List Tk} {t:Tk} {d:Db}
structure rR(T:List Tk)(d:Db):Prop where
 e:tC T (aa T) d
 o:uN T d
 u:∀j,j<T.length->aY T (aa T) j=0
 b:kc T=(d.Yy.length:Int)
 r:gw T d
 f:sg d
 p:tB T d
theorem Dl(T:List Tk)(t:Tk):kc (T++[t])=aP (kc T) t.s:=by
 unfold kc;rw[VY];rfl
theorem rR.step(I:rR T d)(m:T.length<=100000)(F:(t.s.toList == [])=false)(p:Pl)(J:p=nz t):aY (T++[t]) (aa (T++[t])) T.length=(aZ d t.s p).1/\((aZ d t.s p).1=0->rR (T++[t]) (aZ d t.s p).2):=by
 obtain⟨z,q⟩:=Cg T m I.u;have v:=C8 T t m I.u;have g:aY (T++[t]) (aa (T++[t])) T.length=(aZ d t.s p).1/\((aZ d t.s p).1=0->tC (T++[t]) (aa (T++[t])) (aZ d t.s p).2/\uN (T++[t]) (aZ d t.s p).2):=by
  rcases I.o with ⟨n,i,c,a,k⟩ | ⟨n,i,c,a,k,x,w⟩ | ⟨g,D,B,i,l,E,C,A,a,c,y,k,G⟩
  ·have e:aZ d t.s p=ay d t.s:=(by unfold aZ;rw[i];rfl);rw[v,Uf n.symm,e];exact GT z q I.e n i c a k F
  ·have e:aZ d t.s p=aI d t.s:=(by unfold aZ;rw[i];rfl);obtain⟨M,N⟩:=Ou (t:=t) z q I.e n c a k x w;rw[v,Ud (by omega),M,Uf (by simp),e];exact N
  ·rw[v,Ud (by omega),pi i l E C,Ud (by simp only;omega)];simp only;rw[A];exact LE z q I.e i l E C A a c y k G p
 refine⟨g.1,fun h=>?_⟩;obtain⟨K,L⟩:=g.2 h;refine⟨K,L,fun j H=>?_,?_,gw.step I.o I.e I.u I.r m p h,sg.step I.o I.e I.r I.f p h,by rw[J]at h ⊢;exact I.p.step I.o I.r F h⟩
 ·rw[Uh,UK,UU]at H;by_cases e:j<T.length
  ·exact sK T [t] m I.u j e
  ·have e:j=T.length:=(by omega);rw[e,g.1];exact h
 ·rw[Dl,I.b,EO I.o t.s p h]
theorem I1(T:List Tk)(h:0<T.length):∃u,T.getLast?=some u/\u.s=tS T (T.length-1):=by
 rw[V8,Ub (by omega)];refine⟨_,rfl,?_⟩;unfold tS;rw[Uc,Ub (by omega)];rfl
theorem rR.open(I:rR T d):lT d=!dG T:=by
 have p:=dN T;have t:=I.b;have a:fD T<T.length->dG T=false:=fun h=>by
  obtain⟨u,i,j⟩:=I1 T (by omega);have:=p.n (T.length-1) (by unfold fD at h;omega) (by omega);unfold dG;rw[i];simp only;rw[j,this];rfl
 unfold lT;rcases I.o with ⟨D,g,f,c,x⟩ | ⟨D,g,f,c,x,H,G⟩ | ⟨r,w,B,g,E,M,m,L,c,f,J,x,K⟩
 ·rw[g];have y:(bne (0:Int) 0)=false:=rfl;rw[y,Vn];by_cases C:T.length=0
  ·have e:T=[]:=UI C;rw[e]at t ⊢;have:d.Yy.length=0:=by
    have h:kc []=0:=rfl;omega
   rw[this];rfl
  ·obtain⟨u,i,j⟩:=I1 T (by omega);have F:0<(aa T).length:=by
    rcases Nat.eq_zero_or_pos (aa T).length with h | h
    ·have:=Gn T;rw[h]at this;unfold lk at this;rw[Ud (by omega)]at this;omega
    ·exact h
   have q:(aq (aa T) ((aa T).length-1)).z=T.length:=by
    have:=Gn T;unfold lk at this;rw[Uf F]at this;omega
   have v:=(p.s ((aa T).length-1) (by omega)).1.e;rw[q]at v;unfold dG;rw[i];simp only;rw[j,v,VI,t];by_cases q:d.Yy.length=0
   ·rw[q];rfl
   ·have A:((d.Yy.length:Int)==0)=false:=X6 (by omega);rw[A,Vy (show 0<d.Yy.length by omega)];rfl
 ·rw[g,a (by omega)];rfl
 ·rw[a (by omega)];have:(d.Yw != 0)=true:=by
   generalize d.Yw=k at m ⊢;generalize r.toList=l at m
   (rcases m with ⟨rfl,rfl⟩ | ⟨rfl,rfl⟩ | ⟨rfl,rfl⟩ | ⟨rfl,rfl⟩ | ⟨rfl,rfl⟩ | ⟨rfl,rfl⟩ | ⟨rfl,rfl⟩) <;> rfl
  rw[this];rfl
theorem Nj{d:Db}(h:d=⟨[],[],[],[],[],[],[],[],0,⟨#[]⟩,[],false,[]⟩):rR [] d:=by
 subst h;refine⟨⟨rfl,fun x=>rfl,⟨rfl,rfl,fun i a=>(by simp at a)⟩,⟨rfl,rfl,fun i a=>(by simp at a)⟩⟩,uN.none rfl rfl rfl rfl rfl,fun j b=>(by simp at b),rfl,⟨oG.nil,(fun n s h=>by cases h),rfl⟩,⟨(fun n s h=>by cases h),(fun n m s u h=>by cases h),fun h=>by cases h⟩,Se rfl⟩
end
section
variable (rec:Nat->List Bool->List Tk->List Tk×List Bool) (fs:Fs)
theorem Jg(t:Tk)(r:List Tk)(b:List Bool)(a:List Tk)(h:((t.YE==0)&&(t.s.toList == []))=true):di rec fs (t :: r) b a=((if dG a=true then a else a++[so t 7]),b):=by
 rw[di.eq_def];exact Uf h
theorem yJ(t:Tk)(r:List Tk)(b:List Bool)(a:List Tk)(h:((t.YE==0)&&(t.s.toList == []))=false)(c:(t.s.toList == [36,91])=false):di rec fs (t :: r) b a=di rec fs r b (a++[t]):=by
 rw[di.eq_def];simp only;rw[Ud (by rw[h];simp),Uf c]
theorem N5(t:Tk)(r:List Tk)(b:List Bool)(a:List Tk)(h:((t.YE==0)&&(t.s.toList == []))=false)(c:(t.s.toList == [36,91])=true)(d:dG a=false):di rec fs (t :: r) b a=(a++[so t 4],b):=by
 rw[di.eq_def];simp only;rw[Ud (by rw[h];simp),Ud (by rw[c];simp),Uf d]
theorem Jh(t a:Tk)(c:List Bool)(b:List Tk)(h:((t.YE==0)&&(t.s.toList == []))=false)(d:(t.s.toList == [36,91])=true)(e:dG b=true):di rec fs [t,a] c b=(b++[so a (dL fs a.s a.YE)],c):=by
 rw[di.eq_def];simp only;rw[Ud (by rw[h];simp),Ud (by rw[d];simp),Ud (by rw[e];simp)]
theorem Ji(t a b:Tk)(r:List Tk)(d:List Bool)(c:List Tk)(h:((t.YE==0)&&(t.s.toList == []))=false)(e:(t.s.toList == [36,91])=true)(f:dG c=true):di rec fs (t :: a :: b :: r) d c =
  if(dL fs a.s a.YE==0)=false then(c++[so a (dL fs a.s a.YE)],d)
  else if(eC b.s b.YE==0)=false then(c++[so b (eC b.s b.YE)],d)
  else if d.getD (bR fs a.s).toNat true=true then di rec fs r d c
  else if fm (rec (bR fs a.s).toNat d c).1=true then rec (bR fs a.s).toNat d c
  else di rec fs r (rec (bR fs a.s).toNat d c).2 (rec (bR fs a.s).toNat d c).1:=by
 rw[di.eq_def];simp only;rw[Ud (by rw[h];simp),Ud (by rw[e];simp),Ud (by rw[f];simp)]
theorem Ck(g:∀j d c,∃V,(rec j d c).1=c++V)(n:Nat):∀L,L.length<=n->∀d c,∃V,(di rec fs L d c).1=c++V:=by
 induction n with
 | zero =>
  intro L f d c;have:L=[]:=UI (by omega);subst this;exact⟨[],by rw[di.eq_def];simp⟩
 | succ n m =>
  intro L f d c;cases L with
  | nil=>exact⟨[],by rw[di.eq_def];simp⟩
  | cons t r =>
   simp only[List.length_cons]at f;cases h:((t.YE==0)&&(t.s.toList == []))
   ·cases e:(t.s.toList == [36,91])
    ·rw[yJ rec fs t r d c h e];obtain⟨V,k⟩:=m r (by omega) d (c++[t]);exact⟨t :: V,by rw[k];simp⟩
    ·cases i:dG c
     ·rw[N5 rec fs t r d c h e i];exact⟨_,rfl⟩
     ·match r,f with
      | [],_ =>
       refine⟨[],?_⟩;rw[di.eq_def];simp only;rw[Ud (by rw[h];simp),Ud (by rw[e];simp),Ud (by rw[i];simp)];simp
      | [a],_=>rw[Jh rec fs t a d c h e i];exact⟨_,rfl⟩
      | a :: b :: r',f =>
       simp only[List.length_cons]at f;rw[Ji rec fs t a b r' d c h e i];split
       ·exact⟨_,rfl⟩
       ·split
        ·exact⟨_,rfl⟩
        ·split
         ·exact m r' (by omega) d c
         ·obtain⟨V,k⟩:=g (bR fs a.s).toNat d c;split
          ·exact⟨V,k⟩
          ·obtain⟨o,l⟩:=m r' (by omega) (rec (bR fs a.s).toNat d c).2 (rec (bR fs a.s).toNat d c).1;exact⟨V++o,by rw[l,k];simp⟩
   ·rw[Jg rec fs t r d c h];simp only;split
    ·exact⟨[],by simp⟩
    ·exact⟨_,rfl⟩
end
theorem vw(n:Nat):∀j b a,∃V,(eU w n j b a).1=a++V:=by
 induction n with
 | zero=>intro j b a;exact⟨[],by simp[eU]⟩
 | succ n c=>intro j b a;rw[eU];exact Ck (eU w n) w c _ _ (Ue _) _ _
def Jx(L:List Tk):Prop:=∀t∈L,t.YE=0
structure Rl(fs:Fs)(bg sn:List Bool):Prop where
 b:bg.length=4
 s:sn.length=fs.length
 e:∀j,j<fs.length->bg.getD j true=sn.getD j true
theorem Rl.set{a c:List Bool}(h:Rl u a c)(d:u.length<=4)(k:Nat)(g:k<u.length):Rl u (a.set k true) (c.set k true):=by
 refine⟨by rw[UZ];exact h.b,by rw[UZ];exact h.s,fun j f=>?_⟩;have:=h.b;have:=h.s;rw[Uc,Uc,Ve,Ve];by_cases e:k=j
 ·rw[Uf e,Uf e,Uf (by omega),Uf (by omega)]
 ·rw[Ud e,Ud e];have:=h.e j f;rw[Uc,Uc]at this;exact this
def rS(fs:Fs)(N:Nat)(res:Im)(R:List Tk×List Bool):Prop :=
 (res.1=dh/\rR R.1 res.2.2/\Jx R.1/\Rl fs res.2.1 R.2/\R.1.length+1025*aU R.2<=N) ∨
 (∃(W:List Tk) (u:Tk) (d:Db),R.1=W++[u]/\(u.YE==0)=false/\rR W d/\Jx W/\res.1=(u.YE,nz u)) ∨
 ∃(W:List Tk) (t:Tk) (V:List Tk) (d:Db) (r:Int),R.1=W++t :: V/\t.YE=0/\rR W d/\W.length+1<=N/\aY (W++[t]) (aa (W++[t])) W.length=r/\(r==0)=false/\res.1=(r,nz t)
theorem rS.good(a:q.1=dh)(c:rR g.1 q.2.2)(d:Jx g.1)(e:Rl u q.2.1 g.2)(f:g.1.length+1025*aU g.2<=b):rS u b q g:=Us ⟨a,c,d,e,f⟩
theorem rS.ends(a:g.1=k++[x])(c:(x.YE==0)=false)(d:rR k B)(e:Jx k)(f:q.1=(x.YE,nz x)):rS u b q g:=Uo (Us ⟨k,x,B,a,c,d,e,f⟩)
theorem rS.YE(a:g.1=k++x :: i)(c:x.YE=0)(d:rR k B)(e:k.length+1<=b)(f:aY (k++[x]) (aa (k++[x])) k.length=v)(j:(v==0)=false)(l:q.1=(v,nz x)):rS u b q g:=Uo (Uo ⟨k,x,i,B,v,a,c,d,e,f,j,l⟩)
theorem zY(h:Jx z):fm z=false:=by
 unfold fm;cases e:z.getLast? with
 | none=>rfl
 | some t =>
  have:=h t (List.mem_of_getLast? e);simp[this]
theorem vp(k:Nat)(b:k<=f.size):(aK (aC f k).1=true->((aC f k).1.text.toList == [])=false/\(aC f k).1.YE=0)/\(aK (aC f k).1=false->(aC f k).1.text=⟨#[]⟩/\((aC f k).1.YA=true->(aC f k).1.YE=0)):=by
 have e:∀a k,k<=f.size->aK (cm f a k).1=false->(cm f a k).1.text=⟨#[]⟩/\((cm f a k).1.YA=true->(cm f a k).1.YE=0):=by
  intro a
  induction a with
  | zero=>intro k _ _;exact⟨rfl,fun h=>by cases h⟩
  | succ a i =>
   intro k b h;have d:=iq f k b;rw[cm]at h ⊢;split
   ·next g =>
    rw[Uf g]at h;split
    ·exact⟨rfl,fun h=>by cases h⟩
    ·next c =>
     rw[Ud c]at h;exact i _ d.2.1 h
   ·next g =>
    rw[Ud g]at h;split
    ·exact⟨rfl,fun h=>by cases h⟩
    ·next c =>
     rw[Ud c]at h;exact(uD f k b).2 h
 unfold aC
 suffices hs:∀a k,k<=f.size->(aK (dZ f a k).1=true->((dZ f a k).1.text.toList == [])=false/\(dZ f a k).1.YE=0)/\(aK (dZ f a k).1=false->(dZ f a k).1.text=⟨#[]⟩/\((dZ f a k).1.YA=true->(dZ f a k).1.YE=0)) from hs _ _ b
 clear b k;intro a
 induction a with
 | zero=>intro k b;exact⟨fun h=>by simp[dZ,aK]at h,fun _=>⟨rfl,fun _=>rfl⟩⟩
 | succ a i =>
  intro k b;have d:=iq f k b;have j:=jK f (bQ f k).2 d.2.1;rw[dZ];split
  ·split
   ·exact i _ j.2
   ·next c =>
    refine⟨fun h=>absurd h c,fun h=>?_⟩;exact e _ _ d.2.1 h
  ·exact uD f k b
theorem KD(h:(v==0)=false):dL w y v=v:=by unfold dL;exact Uf h
theorem KE(h:v=0)(a:y=⟨#[]⟩):dL w y v=7:=by
 subst h a;unfold dL;rw[Ud (by simp),Uf pT]
theorem Gg(h:v=0)(a:(y.toList == [])=false):dL w y v=if dD y=true then 5 else if bR w y<0 then 6 else 0:=by
 subst h;unfold dL;rw[Ud (by simp),Ud (by rw[a];simp),iV]
theorem Fw(h:(v==0)=false):eC y v=v:=by unfold eC;exact Uf h
theorem Fx(h:v=0)(a:y=⟨#[]⟩):eC y v=7:=by
 subst h a;unfold eC;rw[Ud (by simp),Uf pT]
theorem Dc(h:v=0)(a:(y.toList == [])=false):eC y v=if(y.toList == [36,93])=false then 5 else 0:=by
 subst h;unfold eC;rw[Ud (by simp),Ud (by rw[a];simp)]
theorem N9(az:w.length<=4)(a0:∀j,j<w.length->(ak w j).size<=1024)(f:Nat):∀n x k c y d b N,x<w.length->k<=(ak w x).size->Rl w c y->aU y<=n ->
  ((ak w x).size-k+1)+1025*aU y<=f->rR b d->Jx b->b.length+((ak w x).size-k+1)+1025*aU y<=N->N<=100000 ->
  rS w N (bE w f x k c d) (di (eU w n) w (mR (aF w x) (ak w x) k) y b):=by
 induction f with
 | zero=>intro n x k c y d b N _ _ _ _ h;omega
 | succ f ih =>
  intro n x k c y d b N hx hk hS hn hf K T hN U;have hl:=gq (ak w x) k hk;obtain⟨t1,t2⟩:=vp (ak w x) k hk;have C:=K.open;cases D:aK (aC (ak w x) k).1
  ·-- the YB ends,or a word's stead is taken
   obtain⟨x1,x2⟩:=t2 D;rw[kO _ _ k D];cases F:(aC (ak w x) k).1.YA
   ·have hr:((aC (ak w x) k).1.YE==0)=false:=ld D F;have P:((mw (aF w x) (ak w x) (aC (ak w x) k).1).YE==0&&((mw (aF w x) (ak w x) (aC (ak w x) k).1).s.toList == []))=false:=(by simp only[mw];rw[hr];rfl);have e2:((mw (aF w x) (ak w x) (aC (ak w x) k).1).s.toList == [36,91])=false:=(by simp only[mw];rw[x1];decide +kernel);rw[yJ _ _ _ _ _ _ P e2,xV w f x k c d D (by rw[F];simp)];refine rS.ends b _ d (by rw[di.eq_def]) hr K T ?_;simp[jB,F,mw,nz,lD]
   ·have P:((mw (aF w x) (ak w x) (aC (ak w x) k).1).YE==0&&((mw (aF w x) (ak w x) (aC (ak w x) k).1).s.toList == []))=true:=(by simp only[mw];rw[x1,x2 F,pT];rfl);rw[Jg _ _ _ _ _ _ P];cases Q:dG b
    ·rw[Q]at C;rw[xV w f x k c d D (by rw[C];simp)];refine rS.ends b (so (mw (aF w x) (ak w x) (aC (ak w x) k).1) 7) d (by simp) rfl K T ?_;simp[jB,F,mw,nz,lD,so]
    ·rw[Q]at C;rw[BG w f x k c d D F C];exact rS.good rfl (by simp only[if_true];exact K) (by simp only[if_true];exact T) hS (by simp only[if_true];omega)
  ·have aS:=hl.2.2 D;obtain⟨x1,x2⟩:=t1 D;rw[kP _ _ k hk D];have P:((mw (aF w x) (ak w x) (aC (ak w x) k).1).YE==0&&((mw (aF w x) (ak w x) (aC (ak w x) k).1).s.toList == []))=false:=(by simp only[mw];rw[x1];simp);cases hi:((aC (ak w x) k).1.text.toList == [36,91])
   ·-- a word is taken
    rw[yJ _ _ _ _ _ _ P (by exact hi)];have J:ia w f x k c d=((if((aZ d (aC (ak w x) k).1.text (lD (aF w x) (ak w x) (aC (ak w x) k).1.pos)).1==0)=true then dh else((aZ d (aC (ak w x) k).1.text (lD (aF w x) (ak w x) (aC (ak w x) k).1.pos)).1,lD (aF w x) (ak w x) (aC (ak w x) k).1.pos),c,(aZ d (aC (ak w x) k).1.text (lD (aF w x) (ak w x) (aC (ak w x) k).1.pos)).2),(aC (ak w x) k).2):=by
     unfold ia kG;rw[hi];simp
    obtain⟨g1,g2⟩:=K.step (t:=mw (aF w x) (ak w x) (aC (ak w x) k).1) (by omega) x1 (lD (aF w x) (ak w x) (aC (ak w x) k).1.pos) rfl;have e3:(mw (aF w x) (ak w x) (aC (ak w x) k).1).s=(aC (ak w x) k).1.text:=rfl;rw[e3]at g1 g2;cases h2:((aZ d (aC (ak w x) k).1.text (lD (aF w x) (ak w x) (aC (ak w x) k).1.pos)).1==0)
    ·rw[pO w f x k c d D (by rw[J,h2];simpa using h2),J,h2];obtain⟨V,hV⟩:=Ck (eU w n) w (vw w n) _ _ (Ue _) y (b++[mw (aF w x) (ak w x) (aC (ak w x) k).1]);exact rS.YE b (mw (aF w x) (ak w x) (aC (ak w x) k).1) V d _ (by rw[hV];simp) x2 K (by omega) g1 h2 (by simp[mw,nz,lD])
    ·rw[Al w f x k c d D (by rw[J,h2];rfl),J];refine ih n x _ c y _ _ N hx hl.2.1 hS hn (by omega) (g2 (by simpa using h2)) ?_ (by simp;omega) U;intro u hu;rcases UG.1 hu with hu | hu
     ·exact T u hu
     ·rw[Uq.1 hu];exact x2
   ·-- an inclusion
    have J:ia w f x k c d=oo (dd w f) w x (aC (ak w x) k).2 (lD (aF w x) (ak w x) (aC (ak w x) k).1.pos) c d:=by
     unfold ia kG;rw[hi,Uf rfl]
    have p:∀(W:List Tk) (u:Tk) (fl:pJ),sR w x (aC (ak w x) k).2 (lD (aF w x) (ak w x) (aC (ak w x) k).1.pos) d=.inl fl->fl=(u.YE,nz u)->(u.YE==0)=false->rS w N (bE w (f+1) x k c d) (b++[u],y):=fun W u fl af e h0=>by
     have e2:oo (dd w f) w x (aC (ak w x) k).2 (lD (aF w x) (ak w x) (aC (ak w x) k).1.pos) c d=((fl,c,d),(aC (ak w x) k).2):=by
      unfold oo;rw[af]
     rw[pO w f x k c d D (by rw[J,e2,e];exact h0),J,e2];exact rS.ends b u d rfl h0 K T e
    cases Q:dG b
    ·rw[Q]at C;rw[N5 _ _ _ _ _ _ P (by exact hi) Q];exact p b (so (mw (aF w x) (ak w x) (aC (ak w x) k).1) 4) _ (by unfold sR;rw[Uf (by rw[C];rfl)];rfl) rfl rfl
    ·rw[Q]at C;have v:¬lT d=true:=(by rw[C];simp);obtain⟨z,hz⟩:∃z,z=(aC (ak w x) k).2:=⟨_,rfl⟩
     rw[<-hz]at hl aS J p ⊢;have ha:=gq (ak w x) z hl.2.1;obtain⟨a1,a2⟩:=vp (ak w x) z hl.2.1;cases g:aK (aC (ak w x) z).1
     ·obtain⟨y1,y2⟩:=a2 g;rw[kO _ _ z g,Jh _ _ _ _ _ _ P (by exact hi) Q];have O:dL w (mw (aF w x) (ak w x) (aC (ak w x) z).1).s (mw (aF w x) (ak w x) (aC (ak w x) z).1).YE=if(aC (ak w x) z).1.YA=true then 7 else(aC (ak w x) z).1.YE:=by
       cases B:(aC (ak w x) z).1.YA
       ·exact KD w _ _ (ld g B)
       ·exact KE w _ _ (y2 B) y1
      refine p b _ _ (by unfold sR;rw[Ud v,Uf g]) (by simp only[jB,so,nz];rw[O];rfl) ?_;simp only[so];rw[O];cases B:(aC (ak w x) z).1.YA
      ·exact ld g B
      ·rfl
     ·have ap:=ha.2.2 g;obtain⟨y1,y2⟩:=a1 g;obtain⟨o,I⟩:∃o,o=(aC (ak w x) z).2:=⟨_,rfl⟩
      rw[kP _ _ z hl.2.1 g,<-I];rw[<-I]at ha ap;have X:=gq (ak w x) o ha.2.1;obtain⟨b1,b2⟩:=vp (ak w x) o ha.2.1;obtain⟨tl,Y⟩:∃tl,mR (aF w x) (ak w x) o=mw (aF w x) (ak w x) (aC (ak w x) o).1 :: tl:=by
       cases i:aK (aC (ak w x) o).1
       ·exact⟨[],kO _ _ o i⟩
       ·exact⟨_,kP _ _ o ha.2.1 i⟩
      rw[Y,Ji _ _ _ _ _ _ _ _ P (by exact hi) Q];have O:dL w (mw (aF w x) (ak w x) (aC (ak w x) z).1).s (mw (aF w x) (ak w x) (aC (ak w x) z).1).YE=if dD (aC (ak w x) z).1.text=true then 5 else if bR w (aC (ak w x) z).1.text<0 then 6 else 0:=by
       exact Gg w _ _ y2 y1
      rw[O];have ax:(mw (aF w x) (ak w x) (aC (ak w x) z).1).s=(aC (ak w x) z).1.text:=rfl;rw[ax];cases H:dD (aC (ak w x) z).1.text
      ·by_cases E:bR w (aC (ak w x) z).1.text<0
       ·simp only[Bool.false_eq_true,if_false,if_pos E];rw[Uf (show((6:Int)==0)=false from rfl)];exact p b _ _ (by unfold sR;rw[Ud v,Ud (by rw[g];simp),Ud (by rw[H];simp),Uf E];rfl) rfl rfl
       ·simp only[Bool.false_eq_true,if_false,if_neg E];rw[Ud (show ¬((0:Int)==0)=false by decide)];have ar:eC (mw (aF w x) (ak w x) (aC (ak w x) o).1).s (mw (aF w x) (ak w x) (aC (ak w x) o).1).YE=if aK (aC (ak w x) o).1=false then(if(aC (ak w x) o).1.YA=true then 7 else(aC (ak w x) o).1.YE) else if((aC (ak w x) o).1.text.toList == [36,93])=false then 5 else 0:=by
         cases i:aK (aC (ak w x) o).1
         ·obtain⟨y3,y4⟩:=b2 i;rw[Uf rfl];cases B:(aC (ak w x) o).1.YA
          ·exact Fw _ _ (ld i B)
          ·exact Fx _ _ (y4 B) y3
         ·obtain⟨y3,y4⟩:=b1 i;rw[Ud (by simp)];exact Dc _ _ y4 y3
        rw[ar];cases i:aK (aC (ak w x) o).1
        ·rw[Uf rfl];have ag:((if(aC (ak w x) o).1.YA=true then 7 else(aC (ak w x) o).1.YE)==0)=false:=by
          cases B:(aC (ak w x) o).1.YA
          ·exact ld i B
          ·rfl
         rw[Uf ag];exact p b _ _ (by unfold sR;rw[Ud v,Ud (by rw[g];simp),Ud (by rw[H];simp),Ud E,<-I,Uf i];rfl) rfl ag
        ·simp only[Bool.true_eq_false,if_false];cases ad:((aC (ak w x) o).1.text.toList == [36,93])
         ·rw[Uf rfl,Uf (show((5:Int)==0)=false from rfl)];exact p b _ _ (by unfold sR;rw[Ud v,Ud (by rw[g];simp),Ud (by rw[H];simp),Ud E,<-I,Ud (by rw[i];simp),Uf ad];rfl) rfl rfl
         ·simp only[Bool.true_eq_false,if_false];rw[Ud (show ¬((0:Int)==0)=false by decide)]
          -- the YB is named
          have a4:=X.2.2 i;have al:tl=mR (aF w x) (ak w x) (aC (ak w x) o).2:=by
           rw[kP _ _ o ha.2.1 i]at Y;exact(Yb Y).2.symm
          rw[al];obtain⟨j,hj⟩:∃j,j=(bR w (aC (ak w x) z).1.text).toNat:=⟨_,rfl⟩
          have M:j<w.length:=by
           rcases qI (aC (ak w x) z).1.text w with h | ⟨q,hq,h⟩
           ·rw[h]at E;omega
           ·rw[hj,h,UR];exact hq
          rw[<-hj];have l:ia w f x k c d=(dd w f j c d,(aC (ak w x) o).2):=by
           rw[J];unfold oo sR;rw[Ud v,Ud (by rw[g];simp),Ud (by rw[H];simp),Ud E,<-I,Ud (by rw[i];simp),Ud (by rw[ad];simp),<-hj]
          have G:=hS.e j M;cases L:c.getD j true
          ·rw[L]at G;have aT:y[j]?=some false:=by
            have:=hS.s;rw[Ub (by omega)];rw[Uc,Ub (by omega)]at G;exact congrArg some G.symm
           have a5:=mm y j aT;rw[Ud (by rw[<-G];simp)];have A:dd w f j c d=bE w f j 0 (c.set j true) d:=(by unfold dd;rw[L,Ud (by simp)]);obtain⟨m,hm⟩:∃m,n=m+1:=⟨n-1,by omega⟩
           have er:eU w n j y b=di (eU w m) w (mR (aF w j) (ak w j) 0) (y.set j true) b:=(by rw[hm,eU,AY]);have a3:=a0 j M;have R1:=ih m j 0 (c.set j true) (y.set j true) d b (b.length+1025*aU y) M (UF _) (hS.set az j M) (by omega) (by omega) K T (by omega) (by omega);rw[<-er,<-A]at R1;have ai:=vw w n j y b;generalize eU w n j y b=S at *;rcases R1 with ⟨Z,R,r3,r4,r5⟩ | ⟨W,u,d0,Z,R,r3,r4,r5⟩ | ⟨W,t,V,d0,r,Z,R,r3,r4,r5,r6,r7⟩
           ·rw[zY r3,Ud (by simp),Al w f x k c d D (by rw[l,Z];rfl),l];have a6:aU S.2<=aU y:=by
             obtain⟨V,hV⟩:=ai;rw[hV,Uh]at r5;omega
            exact ih n x _ _ S.2 _ S.1 N hx X.2.1 r4 (by omega) (by simp only;omega) R r3 (by simp only;omega) U
           ·have ac:fm S.1=true:=(by unfold fm;rw[Z,Wg];simp only;rw[R];rfl);rw[ac,Uf rfl,pO w f x k c d D (by rw[l,r5];exact R),l];exact rS.ends W u d0 Z R r3 r4 r5
           ·rw[pO w f x k c d D (by rw[l,r7];exact r6),l];cases ac:fm S.1
            ·rw[Ud (by simp)];obtain⟨V2,ao⟩:=Ck (eU w n) w (vw w n) _ (mR (aF w x) (ak w x) (aC (ak w x) o).2) (Ue _) S.2 S.1;exact rS.YE W t (V++V2) d0 r (by rw[ao,Z];simp) R r3 (by omega) r5 r6 r7
            ·rw[Uf rfl];exact rS.YE W t V d0 r Z R r3 (by omega) r5 r6 r7
          ·rw[L]at G;have A:dd w f j c d=(dh,c,d):=(by unfold dd;rw[L,Uf rfl]);rw[Uf G.symm,Al w f x k c d D (by rw[l,A];rfl),l,A];exact ih n x _ c y d b N hx X.2.1 hS hn (by omega) K T (by omega) U
      ·simp only[if_true];rw[Uf (show((5:Int)==0)=false from rfl)];exact p b _ _ (by unfold sR;rw[Ud v,Ud (by rw[g];simp),Uf H];rfl) rfl rfl
def Nc(t:Tk):pJ:=(t.YE,nz t)
def gj(fs:Fs)(k:Nat):pJ :=
 if((Af (bL fs k).1 (aa (bL fs k).1)).YE==0)=false then Nc (Af (bL fs k).1 (aa (bL fs k).1)) else Nc (bL fs k).2
theorem IK(h:rR z z0):Af z (aa z)=gO:=Rb h.u
theorem xL(k:w.length<=4)(p:∀j,j<w.length->(ak w j).size<=1024)(n:H<w.length) :
  (bP w H).1=gj w H/\(((bP w H).1.1==0)=true->rR (bL w H).1 (bP w H).2.2/\(bL w H).1.length<=10000):=by
 have i:Rl w IA (List.replicate w.length false):=⟨rfl,by simp,fun j l=>by
  rw[Uc,Uc,VC,Uf l]
  match j,(show j<4 by omega) with
  | 0,_=>rfl
  | 1,_=>rfl
  | 2,_=>rfl
  | 3,_=>rfl⟩
 have o:(List.replicate w.length false)[H]?=some false:=by rw[VC,Uf n]
 have z:=mm _ H o;rw[og]at z;have C:=p H n;have G:bP w H=bE w 5000 H 0 (IA.set H true) fU:=by
  unfold bP dd;rw[i.e H n,Uc,o];rfl
 have I:eU w w.length H (List.replicate w.length false) []=di (eU w (w.length-1)) w (mR (aF w H) (ak w H) 0) ((List.replicate w.length false).set H true) []:=by
  obtain⟨m,K⟩:∃m,w.length=m+1:=⟨w.length-1,by omega⟩
  have:w.length-1=m:=by omega
  rw[this]
  conv=>lhs;rw[show eU w w.length=eU w (m+1) by rw[K]]
  rw[eU,AY]
 have B:=N9 w k p 5000 (w.length-1) H 0 (IA.set H true) ((List.replicate w.length false).set H true) fU [] 5000 n (UF _) (i.set k H n) (by omega) (by omega) (Nj rfl) (fun t L=>by cases L) (by simp only[List.length_nil];omega) (by omega);rw[<-G,<-I]at B;have q:(eU w w.length H (List.replicate w.length false) []).1=qw w H:=rfl;generalize eU w w.length H (List.replicate w.length false) []=N at *;unfold gj bL;rcases B with ⟨b,d,f,D,g⟩ | ⟨W,u,F,b,d,f,D,g⟩ | ⟨W,t,V,F,r,b,d,f,D,g,A,E⟩
 ·rw[q]at d f g;simp only[zY f,Bool.false_eq_true,if_false];rw[IK d,Ud (by decide)];exact⟨b,fun _=>⟨d,by omega⟩⟩
 ·rw[q]at b;have a:fm (qw w H)=true:=by unfold fm;rw[b,Wg];simp only;rw[d];rfl
  rw[a,Uf rfl,b,List.dropLast_concat,Wg];simp only[Option.getD_some];rw[IK f,Ud (by decide)];exact⟨g,fun h=>by rw[g]at h;simp only at h;rw[d]at h;cases h⟩
 ·rw[q]at b;obtain⟨c,s⟩:∃c,(if fm (qw w H)=true then((qw w H).dropLast,(qw w H).getLast?.getD gO) else(qw w H,gO)).1=(W++[t])++c:=by
   cases a:fm (qw w H)
   ·rw[Ud (by simp)];exact⟨V,by simp only;rw[b];simp⟩
   ·rw[Uf rfl];cases V with
    | nil =>
     unfold fm at a;rw[b,Wg]at a;simp only[d]at a;cases a
    | cons v V=>exact⟨(v :: V).dropLast,by simp only;rw[b,List.dropLast_append_of_ne_nil (by simp),List.dropLast_cons_of_ne_nil (by simp)];simp⟩
  rw[s];have M:=sK W (t :: c) (by omega) f.u;have x:=xw (W++[t]) c (by simp;omega) W.length (by simp) (fun j l=>sK W [t] (by omega) f.u j l);rw[g]at x
  have y:=M5 (T:=(W++[t])++c) (S:=aa ((W++[t])++c)) (k:=W.length) (by simp) (by rw[x];exact A) (fun j l=>by
   have:=M j l;rw[show W++t :: c=(W++[t])++c by simp]at this;exact this)
  have J:((W++[t])++c).getD W.length gO=t:=by
   rw[Uc,Vs,Ur (Ue _),U3];simp
  rw[y,x,J];simp only;rw[Uf A];exact⟨E,fun h=>by rw[E]at h;simp only at h;rw[A]at h;cases h⟩
theorem JU:((aH y H).toNat:Int)=aH y H:=by
 unfold aH;split <;> simp
theorem Qj:(yk (Tp x)).map LP=tn x:=by
 unfold yk tn;rw[List.map_map];apply V6;intro j a
 show(⟨((aH x.s j).toNat:Int),x.YB,x.YC,x.YD+j⟩:Lt)=⟨aH x.s j,x.YB,x.YC,x.YD+j⟩
 rw[JU]
theorem Hj:((jG i n H).flatMap yk).map LP=eR i n H:=by
 unfold jG eR;rw[List.map_flatMap,List.flatMap_map];congr 1
 funext t
 exact Qj t
def SL(T:List Tk)(S:List Sm)(l:List St)(a A:Nat)(x:Xs):Prop:=(jM l x a=none/\dY T S A x<0)∨∃n,jM l x a=some n/\n<l.length/\dY T S A x=(av S n:Nat)
section
variable {T:List Tk} {S:List Sm} {l:List St} {a A:Nat}
theorem RB(f:∀i j,i<l.length->j<l.length->av S i=av S j->i=j){d:Xv}(c:∀b∈d,b<l.length)(g:b<l.length):jD d b=(d.map (av S)).contains (av S b):=by
 unfold jD;rw[Vo,UW,Wm,Vf];constructor
 ·rintro ⟨y,a,e⟩;have e:y=b:=by simpa using e
  exact⟨y,a,by rw[e]⟩
 ·rintro ⟨y,a,e⟩;exact⟨y,a,by rw[f y b (c y a) g e];simp⟩
theorem MP(y:∀x,(x.toList == [])=false->SL T S l a A x)(w:∀q,q<T.length->((tS T q).toList == [])=false)(v:∀i j,i<l.length->j<l.length->av S i=av S j->i=j)(b z:Nat)(D:z<T.length)(m:Nat) :
  ∀k c,b+k+m=z->(∀n∈c,n<l.length) ->
  se T S A z m (b+k) (c.map (av S))=rs T S (nP (nz (T.getD z gO)) (CP (b8 l a (nz (T.getD z gO)) k (jG T (b+k) z) c).1.2 ((jG T b z).drop (b8 l a (nz (T.getD z gO)) k (jG T (b+k) z) c).1.1) ⟨(b8 l a (nz (T.getD z gO)) k (jG T (b+k) z) c).2,[],[],0,false⟩)):=by
 induction m with
 | zero =>
  intro k c h f;rw[VD]at h;rw[h,xf,b8,se];rfl
 | succ m C =>
  intro k c h f;have s:=zp T (b+k) z (by omega) (by omega);by_cases e:((tS T (b+k)).toList == [41])=true
  ·have d:b8 l a (nz (T.getD z gO)) k (jG T (b+k) z) c=((k+1,dh),c):=(by rw[s,b8,Uf e]);rw[d,se,Uf e];unfold km;have o:Ff (T.getD z gO)=LP (0,nz (T.getD z gO)):=rfl;have g:CP dh ((jG T b z).drop (k+1)) ⟨c,[],[],0,false⟩=BE ((jG T (b+k+1) z).flatMap yk) ⟨c,[],[],0,false⟩:=by
    unfold CP;rw[Uf (by rfl),E5,Bb,WC]
   simp only;rw[g,o,<-Hj];exact F0 T S _ _ _ _ _ _ _ _ ⟨rfl,rfl,rfl,rfl,(fun x u=>by rw[nB]at u;cases u),Us (by rw[nB];rfl),fun _=>nB⟩
  ·rw[se,Ud e];rcases y (tS T (b+k)) (w _ (by omega)) with ⟨r,o⟩ | ⟨n,r,t,o⟩
   ·have d:b8 l a (nz (T.getD z gO)) k (jG T (b+k) z) c=((0,(2,nz (T.getD (b+k) gO))),c):=(by rw[s,b8,Ud e,r]);rw[d,Uf o];rfl
   ·rw[o,Ud (by omega),UR,<-RB v f t];by_cases g:jD c n=true
    ·have d:b8 l a (nz (T.getD z gO)) k (jG T (b+k) z) c=((0,(3,nz (T.getD (b+k) gO))),c):=(by rw[s,b8,Ud e,r];exact Uf g);rw[d,Uf g];rfl
    ·have d:b8 l a (nz (T.getD z gO)) k (jG T (b+k) z) c=b8 l a (nz (T.getD z gO)) (k+1) (jG T (b+k+1) z) (c++[n]):=(by rw[s,b8,Ud e,r];exact Ud g);have p:∀i∈c++[n],i<l.length:=fun i B=>by
      rcases UG.1 B with h | h
      ·exact f i h
      ·rw[Uq.1 h];exact t
     have:=C (k+1) (c++[n]) (by omega) p;rw[UJ,show b+(k+1)=b+k+1 by omega]at this;rw[d,Ud g];exact this
theorem Qm(j:∀x,(x.toList == [])=false->SL T S l a A x)(i:∀q,q<T.length->((tS T q).toList == [])=false)(z:Nat)(o:z<T.length)(m:Nat) :
  ∀b c,b+m=z->mB T S A z m b (c.map (kI T S))=rs T S (ee l a (nz (T.getD z gO)) (jG T b z) c):=by
 induction m with
 | zero =>
  intro b c h;rw[VD]at h;rw[h,xf,ee,mB,Uy];split <;> rfl
 | succ m g =>
  intro b c h;rw[zp T b z (by omega) (by omega),ee,mB];by_cases e:((tS T b).toList == [63])=true
  ·rw[Uf e,Uf e,<-g (b+1) (c++[(⟨1,0,nz (T.getD b gO)⟩:jg)]) (by omega),UJ];rfl
  ·rw[Ud e,Ud e];rcases j (tS T b) (i _ (by omega)) with ⟨d,f⟩ | ⟨n,d,k,f⟩
   ·rw[d,Uf f];rfl
   ·rw[d,f,Ud (by omega)];simp only;rw[<-g (b+1) (c++[(⟨2,n,nz (T.getD b gO)⟩:jg)]) (by omega),UJ];rfl
theorem J1(e:∀x,(x.toList == [])=false->SL T S l a A x)(d:∀q,q<T.length->((tS T q).toList == [])=false)(s:∀i j,i<l.length->j<l.length->av S i=av S j->i=j)(r:(aM l a).map (av S)=a9 T S A)(t:∀n∈aM l a,n<l.length)(v:b<o)(k:o<T.length)(f:((tS T o).toList == [36,46])=true)(c:m.Yn=jG T (b+1) o)(g:m.YA=nz (T.getD o gO)) :
  dU T S A b o=rs T S (bW l a m):=by
 unfold dU bW;have u:vk m=((tS T (b+1)).toList == [40]):=by
  unfold vk;rw[c];by_cases h:b+1<o
  ·rw[zp T (b+1) o h (by omega)]
  ·rw[show b+1=o by omega,xf];rw[cK f];decide
 rw[u];split
 ·next h =>
  have w:b+1<o:=by
   by_cases p:b+1<o
   ·exact p
   ·rw[show b+1=o by omega,cK f]at h;exact absurd h (by decide)
  unfold jZ lu Ab;rw[g,c,<-r,E5];exact MP e d s (b+1) o k (o-(b+2)) 1 (aM l a) (by omega) t
 ·rw[g,c];exact Qm e d o k _ (b+1) [] (by omega)
end
def zi(R:List St)(a:Nat)(vs:Xt)(k i j:Nat):Bool:=(List.range k).any (fun n=>tU R a n&&(bN vs (symsAt R n)).contains i&&(bN vs (symsAt R n)).contains j)
theorem DW(a:Xv)(b:List Bool)(q:Nat)(c:q<b.length):(lz n H a b).getD q false=(b.getD q false||a.any (fun g=>H*n+g==q)):=by
 unfold lz
 induction a generalizing b with
 | nil=>simp
 | cons m a f =>
  simp only[List.foldl_cons,List.any_cons];rw[f (b.set (H*n+m) true) (by simpa using c)];by_cases e:H*n+m=q
  ·subst e;rw[Uc,List.getElem?_set_self c];simp
  ·have d:(H*n+m==q)=false:=(by rw[Uz];exact e);rw[Uc,List.getElem?_set_ne e,<-Uc,d,Vn]
theorem DV(a r:Xv)(b:List Bool)(q:Nat)(d:q<b.length):(r.foldl (fun b c=>lz H c a b) b).getD q false=(b.getD q false||r.any (fun c=>a.any (fun f=>c*H+f==q))):=by
 induction r generalizing b with
 | nil=>simp
 | cons m r e =>
  simp only[List.foldl_cons,List.any_cons];rw[e (lz H m a b) (by rw[qQ];exact d),DW H m a b q d,WD]
theorem Ee{j a c:Nat}(e:c<b)(f:j<b)(h:a*b+c=o*b+j):a=o/\c=j:=by
 have d:(a*b+c) / b=a:=by rw[Nat.mul_comm,Nat.mul_add_div (by omega)];rw[Nat.div_eq_of_lt e];omega
 have g:(o*b+j) / b=o:=by rw[Nat.mul_comm,Nat.mul_add_div (by omega)];rw[Nat.div_eq_of_lt f];omega
 rw[h]at d;have:a=o:=by omega
 subst this;exact⟨rfl,by omega⟩
theorem Ky(k i j:Nat)(n:i<L.length)(e:j<L.length):(dF I N L k).getD (i*L.length+j) false=zi I N L k i j:=by
 have f:i*L.length+j<L.length*L.length:=AS n e
 induction k with
 | zero =>
  unfold zi;rw[dF,Uc,VC,Uf f];rfl
 | succ k g =>
  have l:zi I N L (k+1) i j=(zi I N L k i j||(tU I N k&&(bN L (symsAt I k)).contains i&&(bN L (symsAt I k)).contains j)):=by
   unfold zi;rw[Vr,X9];simp
  rw[l,dF];cases p:tU I N k
  ·simp only[Bool.false_eq_true,if_false,Bool.false_and,Bool.or_false];exact g
  ·simp only[if_true,Bool.true_and];unfold mJ;rw[DV _ _ _ _ _ (by rw[mK];exact f),g];congr 1;rw[Vo];simp only[List.any_eq_true,Bool.and_eq_true,List.contains_iff_mem,beq_iff_eq];constructor
   ·rintro ⟨q,c,r,b,m⟩;obtain⟨o,d⟩:=U7 b;have a:=ut L (symsAt I k) o d.1;rw[d.2]at a;obtain⟨rfl,rfl⟩:=Ee a e m;exact⟨c,b⟩
   ·rintro ⟨c,b⟩;exact⟨i,c,j,b,rfl⟩
theorem JG(a:n<L.length)(b:H<L.length):fK L.length (gI I N L) n H=(!(n==H)&&zi I N L I.length n H):=by
 unfold fK gI;rw[Ky I N L I.length n H a b]
def nS(l N:List St)(a:Nat):Xt:=((List.range N.length).filter (fun j=>BB (l++N) a (l.length+j))).flatMap (symsAt N)
end Go.Proofs.YtnbhnocdhbcbcaaGreat
