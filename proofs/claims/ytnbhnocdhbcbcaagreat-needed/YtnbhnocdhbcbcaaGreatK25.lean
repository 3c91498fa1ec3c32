import Derived.Test.YtnbhnocdhbcbcaaGreatK12
import Derived.Test.YtnbhnocdhbcbcaaGreatK24
namespace Go.Proofs.YtnbhnocdhbcbcaaGreat
open Go.RowKit Tryz
open Value IntKind Ending
set_option maxHeartbeats 0
variable{p:List UInt8}{r:Xs}{b o:Nat}{m:St}{z0:Db}{u:Fs}{q:Hj}{g:List Tk×List Bool}{z:List Tk}(k:List Tk)(x:Tk)(i:List Tk)(B:Db)(w:Fs)(y:Xs)(v:Int)(I:List St)(N:Nat)(L:Xt)(n H:Nat)(f:Xs)
theorem wW:(y++f).toList=y.toList++f.toList:=by
 rw[UB,UB,UB,ByteArray.data_append,Array.toList_append]
theorem nr:(⟨#[]⟩:Xs).toList=[]:=by rw[UB]
theorem Cd(u:UInt8):(⟨#[u]⟩:Xs).toList=[u]:=by rw[UB]
def kz(D:List UInt8):Nat:=D.foldl (fun v c=>v*5+(c.toNat-84)) 0
theorem tx(D:List UInt8)(c:UInt8):kz (D++[c])=kz D*5+(c.toNat-84):=by
 unfold kz;rw[VG];rfl
def digs:Nat->Nat->List UInt8
 | 0,_=>[]
 | f+1,h=>if 0<h then digs f ((h-1) / 5)++[UInt8.ofNat (85+(h-1) % 5)] else []
theorem FE(f:Nat):∀h s,(vW f h s).toList=digs f h++s.toList:=by
 induction f with
 | zero=>intro h s;rfl
 | succ f a =>
  intro h s;rw[vW,digs];split
  ·rw[a,wW,FG,Cd,Vj]
  ·rfl
theorem Ha(f:Nat):∀h,h<=f->kz (digs f h)=h:=by
 induction f with
 | zero=>intro h a;rw[show h=0 by omega];rfl
 | succ f b =>
  intro h a;rw[digs];split
  ·rw[tx,b _ (by omega),UInt8.toNat_ofNat'];omega
  ·rw[show h=0 by omega];rfl
def Ji(D:List UInt8):Prop:=∀c∈D,85<=c.toNat/\c.toNat<=89
theorem xr(D:List UInt8):∀f,Ji D->kz D<=f->digs f (kz D)=D:=by
 induction h:D.length generalizing D with
 | zero =>
  intro f _ _;rw[V9.1 h];cases f <;> rfl
 | succ n g =>
  intro f a b;obtain⟨E,c,rfl⟩:∃E c,D=E++[c]:=⟨D.dropLast,D.getLast (by intro e;rw[e]at h;simp at h),(Wi _).symm⟩
  have i:=a c (by simp);rw[tx]at b ⊢;cases f with
  | zero=>omega
  | succ f =>
   rw[digs,TJ (by omega),show(kz E*5+(c.toNat-84)-1) / 5=kz E by omega,g E (by simpa using h) f (fun x d=>a x (by simp[d])) (by omega)];congr 1;rw[show 85+(kz E*5+(c.toNat-84)-1) % 5=c.toNat by omega,UInt8.ofNat_toNat]
theorem Hb(a:Ji p):kz p=0 ↔ p=[]:=by
 constructor
 ·intro h;have:=xr p 0 a (by omega);rw[<-this];rfl
 ·rintro rfl;rfl
theorem Nw{c:UInt8}(j:r.toList=p++[c])(g:Ji p)(k:65<=c.toNat/\c.toNat<=84)(i:Nat):xZ r i=true ↔ i=kz p*20+(c.toNat-65):=by
 unfold xZ mz;rw[Vo,FE,j,Pz,Cd];constructor
 ·intro h;obtain⟨d,f⟩:=List.append_inj' h rfl;have e:=Ha (i+1) (i / 20) (by omega);rw[d]at e;have a:(UInt8.ofNat (65+i % 20)).toNat=c.toNat:=by rw[XL f |>.1]
  rw[UInt8.toNat_ofNat']at a;omega
 ·intro h;have b:i / 20=kz p:=by omega
  have a:65+i % 20=c.toNat:=by omega
  rw[b,a,xr p _ g (by omega),UInt8.ofNat_toNat]
theorem Ks{s:Xs}{D:List UInt8}{c:UInt8}(g:s.toList=D++[c])(e:Ji D)(f:65<=c.toNat/\c.toNat<=84)(a:Nat):gx s a=if kz D*20+(c.toNat-65)<a then kz D*20+(c.toNat-65)+1 else 0:=by
 unfold gx;split
 ·next i h =>
  have j:=(Nw g e f i).1 (Vq h);have d:=TY.1 (UC h);rw[j]at d ⊢;rw[TJ d]
 ·next h =>
  rw[TH];intro b;rw[US]at h;exact h _ (TY.2 b) ((Nw g e f _).2 rfl)
def rs(T:List Tk)(S:List Sm)(s:kD):di :=
 if s.Yd=1 then⟨-1,0,0,s.at_.Yi,s.at_.Yj,s.at_.Yk⟩
 else if s.Yd=2 then⟨(aw S s.XN:Nat),0,gM T S (aw S s.XN:Nat),s.at_.Yi,s.at_.Yj,s.at_.Yk⟩
 else⟨-2,s.XN,0,s.at_.Yi,s.at_.Yj,s.at_.Yk⟩
def rh(T:List Tk)(S:List Sm)(q:List kD×pu):jP:=⟨q.1.map (rs T S),q.2.1,q.2.2.Yi,q.2.2.Yj,q.2.2.Yk⟩
def LA(x:Nat×Pl):Lt:=⟨(x.1:Int),x.2.Yi,x.2.Yj,x.2.Yk⟩
def xU(x:Xs×Pl):List (Nat×Pl):=(List.range x.1.size).map (fun j=>((aI x.1 j).toNat,{ x.2 with Yk:=x.2.Yk+j }))
def Bl:List (Nat×Pl)->lC->pu×lC
 | [],c=>(cY,c)
 | x :: r,c=>if((bI c x.1 x.2).1==0)=true then Bl r (bI c x.1 x.2).2 else(((bI c x.1 x.2).1,x.2),(bI c x.1 x.2).2)
theorem Pk(A B:List (Nat×Pl)):∀c,Bl (A++B) c=if((Bl A c).1.1==0)=true then Bl B (Bl A c).2 else Bl A c:=by
 induction A with
 | nil=>intro c;rw[Wh,Bl,TJ (by rfl)]
 | cons x r a =>
  intro c;rw[VO,Bl,Bl];split
  ·exact a _
  ·rfl
theorem G0(p:Pl)(k:Nat):∀a j c,j+k=f.size->k<a->ia f p a j c=Bl ((List.range' j k).map (fun j=>((aI f j).toNat,{ p with Yk:=p.Yk+j }))) c:=by
 induction k with
 | zero =>
  intro a j c h b;cases a with
  | zero=>omega
  | succ a=>rw[ia,TH (by omega)];rfl
 | succ k d =>
  intro a j c h b;cases a with
  | zero=>omega
  | succ a =>
   rw[ia,TJ (by omega),List.range'_succ,VB,Bl,d a (j+1) _ (by omega) (by omega)]
theorem OI(x:Xs×Pl)(c:lC):l9 x.1 x.2 c=Bl (xU x) c:=by
 unfold l9 xU;rw[G0 x.1 x.2 x.1.size _ 0 c (by omega) (by omega),List.range_eq_range']
theorem AI(a:List (Xs×Pl)):∀c,pW a c=Bl (a.flatMap xU) c:=by
 induction a with
 | nil=>intro c;rfl
 | cons x r b =>
  intro c;obtain⟨t,p⟩:=x;rw[pW,UI,Pk,OI (t,p) c,b]
structure QD(T:List Tk)(S:List Sm)(refs:Xv)(c:lC)(P:List di)(tags:Xv)(num:Xs)(fr:Bool):Prop where
 st:P=c.steps.map (rs T S)
 tg:tags=c.X0
 rf:refs=c.Yg.map (aw S)
 fr:fr=c.behind
 dg:Ji num.toList
 wo:c.XU=kz num.toList∨(c.Yg.length+c.X0.length<c.XU/\c.Yg.length+c.X0.length<kz num.toList)
 no:c.behind=true->num.toList=[]
theorem Bc:(wG (H:Int)).toList=[UInt8.ofNat H]:=by
 unfold wG;rw[Cd,UF]
theorem Cg(h:b<256):(UInt8.ofNat b).toNat=b:=by rw[UInt8.toNat_ofNat'];omega
section
variable {T:List Tk} {S:List Sm} {refs:Xv} {c:lC} {P:List di} {tags:Xv} {num:Xs} {fr:Bool}
theorem QD.zero(E:QD T S refs c P tags num fr):c.XU=0 ↔ num.toList=[]:=by
 rw[<-Hb E.dg];rcases E.wo with h | ⟨a,b⟩ <;> omega
theorem QD.digit(E:QD T S refs c P tags num fr)(g:85<=b/\b<=89):QD T S refs (jL c (b-84)) P tags (num++wG (b:Int)) false:=by
 have a:Ji (num++wG (b:Int)).toList:=by
  rw[wW,Bc];intro x i;rcases Ut.1 i with h | h
  ·exact E.dg x h
  ·rw[T0.1 h,Cg (by omega)];exact g
 have d:kz (num++wG (b:Int)).toList=kz num.toList*5+(b-84):=by rw[wW,Bc,tx,Cg (by omega)]
 unfold jL;split
 ·next h =>
  refine⟨E.st,E.tg,E.rf,rfl,a,?_,fun h=>by cases h⟩;rw[d];rcases E.wo with w | ⟨e,f⟩
  ·exact TZ (by show c.XU*5+(b-84)=_;rw[w])
  ·omega
 ·next h =>
  refine⟨E.st,E.tg,E.rf,rfl,a,TU ?_,fun h=>by cases h⟩;rw[d];show _<c.XU/\_;have:c.Yg.length+c.X0.length<kz num.toList:=by rcases E.wo with w | ⟨e,f⟩ <;> omega
  exact⟨by show c.Yg.length+c.X0.length<c.XU;omega,by show c.Yg.length+c.X0.length<_;omega⟩
theorem QD.numb(E:QD T S refs c P tags num fr)(d:65<=b/\b<=84)(a:Nat):gx (num++wG (b:Int)) a=if kz num.toList*20+(b-65)<a then kz num.toList*20+(b-65)+1 else 0:=by
 have:=Ks (s:=num++wG (b:Int)) (D:=num.toList) (c:=UInt8.ofNat b) (by rw[wW,Bc]) E.dg (by rw[Cg (by omega)];exact d) a;rw[Cg (by omega)]at this;exact this
end
theorem FH(S:List Sm)(s:Pl)(X:List (Nat×Pl)):∀(a:Xv) (c:lC) (P:List di) (b:Xv) (d:Xs) (t:Bool),QD i S a c P b d t ->
  mK i S a (LA (0,s)) (X.map LA) P b d t=rh i S (mY s (Bl X c)):=by
 induction X with
 | nil =>
  intro a c P b d t E;have e:mY s (cY,c)=(if c.XU=0 then(if c.steps.length=0 then([],(1,s)) else(c.steps,cY)) else([],(4,s))):=rfl;rw[Xg,mK,Bl,e];by_cases h:c.XU=0
  ·have g:d.toList=[]:=E.zero.1 h;rw[g,TH (by simp),TJ h,E.st,Uh];split
   ·rfl
   ·rfl
  ·have g:¬d.toList=[]:=fun e=>h (E.zero.2 e);rw[TJ (Ui.2 g),TH h];rfl
 | cons x r A =>
  intro a c P b d t E;obtain⟨n,p⟩:=x;have v:=E.st;have l:=E.tg;have q:=E.rf;have G:=E.fr;rw[VB,mK,Bl,show(LA (n,p)).c=(n:Int) from rfl]
  show(if 85<=(n:Int)/\(n:Int)<=89 then _ else _)=_
  by_cases u:85<=n/\n<=89
  ·have e:bI c n p=(0,jL c (n-84)):=(by unfold bI;rw[TH (by omega),TJ u]);rw[TJ (by omega),e,TJ (by rfl)];exact A _ _ _ _ _ _ (E.digit u)
  rw[TH (by omega)]
  show(if 65<=(n:Int)/\(n:Int)<=84 then _ else _)=_
  by_cases g:65<=n/\n<=84
  ·have y:a.length=c.Yg.length:=(by rw[q,Uh]);have j:c.XU*20+(n-64)-1=c.XU*20+(n-65):=(by omega);have e:bI c n p=fk c (n-64) p:=(by unfold bI;rw[TJ g]);have k:=E.numb g (a.length+b.length);rw[TJ (by omega),e]
   show(if gx (d++wG (n:Int)) (a.length+b.length)=0 then _ else _)=_
   rcases E.wo with w | ⟨L,M⟩
   ·rw[<-w]at k;by_cases C:c.XU*20+(n-65)<c.Yg.length
    ·have m:fk c (n-64) p=(0,{ dO { c with XU:=0 } ⟨2,c.Yg.getD (c.XU*20+(n-65)) 0,p⟩ with behind:=true }):=(by unfold fk;rw[j,TJ C]);rw[TJ (by rw[y];omega)]at k;rw[k,TH (by omega),m,TJ (by rfl)];refine A _ _ _ _ _ _ ⟨?_,l,q,rfl,(fun x z=>by rw[nr]at z;cases z),TZ (by rw[nr];rfl),fun _=>nr⟩;show _=(c.steps++[_]).map _;rw[Uu,v];congr 1;unfold pP;rw[TJ (by omega),UZ];have I:a.getD (c.XU*20+(n-65)) 0=aw S (c.Yg.getD (c.XU*20+(n-65)) 0):=by
      rw[q,TG,TG,Uo,TF C];rfl
     rw[I];rfl
    ·by_cases H:c.XU*20+(n-65)-c.Yg.length<c.X0.length
     ·have m:fk c (n-64) p=(0,{ dO { c with XU:=0 } ⟨3,c.X0.getD (c.XU*20+(n-65)-c.Yg.length) 0,p⟩ with behind:=true }):=(by unfold fk;rw[j,TH C,TJ H]);rw[TJ (by rw[y,l];omega)]at k;rw[k,TH (by omega),m,TJ (by rfl)];refine A _ _ _ _ _ _ ⟨?_,l,q,rfl,(fun x z=>by rw[nr]at z;cases z),TZ (by rw[nr];rfl),fun _=>nr⟩;show _=(c.steps++[_]).map _;rw[Uu,v];congr 1;unfold pP;rw[TH (by omega),y,l,show c.XU*20+(n-65)+1-c.Yg.length-1=c.XU*20+(n-65)-c.Yg.length by omega];rfl
     ·have m:fk c (n-64) p=(5,{ c with XU:=0 }):=(by unfold fk;rw[j,TH C,TH H]);rw[TH (by rw[y,l];omega)]at k;rw[k,TJ rfl,m,TH (by simp)];rfl
   ·have m:fk c (n-64) p=(5,{ c with XU:=0 }):=(by unfold fk;rw[j,TH (by omega),TH (by omega)]);rw[TH (by rw[y,l];omega)]at k;rw[k,TJ rfl,m,TH (by simp)];rfl
  rw[TH (by omega)]
  show(if(n:Int)=90/\t=true then _ else _)=_
  by_cases o:n=90/\c.behind=true
  ·have e:bI c n p=(0,{ c with X0:=c.X0++[c.steps.length-1],behind:=false }):=(by unfold bI;rw[TH g,TH u,TJ o]);rw[TJ ⟨by omega,by rw[G];exact o.2⟩,e,TJ (by rfl)];refine A _ _ _ _ _ _ ⟨v,?_,q,rfl,E.dg,TZ ?_,fun h=>by cases h⟩
   ·rw[l,v,Uh]
   ·show c.XU=_;have F:=E.no o.2;rw[E.zero.2 F,F];rfl
  rw[TH (fun h=>o ⟨by have:=h.1;omega,by rw[<-G];exact h.2⟩)]
  show(if(n:Int)=63/\(d.toList == [])=true then _ else _)=_
  by_cases B:n=63/\c.XU=0
  ·have e:bI c n p=(0,dO c ⟨1,0,p⟩):=(by unfold bI;rw[TH g,TH u,TH o,TJ B]);rw[TJ ⟨by omega,by rw[E.zero.1 B.2];rfl⟩,e,TJ (by rfl)];refine A _ _ _ _ _ _ ⟨?_,l,q,rfl,E.dg,E.wo,fun h=>by cases h⟩;show _=(c.steps++[_]).map _;rw[Uu,v];rfl
  ·have e:bI c n p=(4,c):=(by unfold bI;rw[TH g,TH u,TH o,TH B]);have J:¬((n:Int)=63/\(d.toList == [])=true):=fun h=>B ⟨by omega,E.zero.2 (by simpa using h.2)⟩;rw[TH J,e,TH (by simp)];rfl
def np(t:Tk):Pl:=⟨t.Yi,t.Yj,t.Yk⟩
def SO(t:Tk):Xs×Pl:=(t.s,np t)
def jA(T:List Tk)(b z:Nat):List (Xs×Pl):=((T.drop b).take (z-b)).map SO
theorem EL:(jA i N n).drop H=jA i (N+H) n:=by
 unfold jA;rw[<-List.map_drop,List.drop_take,List.drop_drop,show n-N-H=n-(N+H) by omega]
theorem yX(h:n<H)(a:H<=i.length):jA i n H=(tS i n,np (i.getD n gQ)) :: jA i (n+1) H:=by
 unfold jA;rw[Uj (by omega),show H-n=(H-(n+1))+1 by omega,Xd,VB];congr 1;unfold SO tS;rw[TG,TF (by omega)];rfl
theorem wX:jA i H H=[]:=by unfold jA;rw[UM,V8];rfl
theorem Je(a:H<=k.length):jA (k++i) n H=jA k n H:=by
 unfold jA;by_cases h:n<=k.length
 ·rw[UP h,Vc (by rw[UK];omega)]
 ·rw[show H-n=0 by omega,V8,V8]
theorem OG(a:H<=k.length):jA (k++[x]) H (k++[x]).length=jA k H k.length++[SO x]:=by
 unfold jA;rw[UP a,Vt (by simp;omega),Vt (by rw[UK];exact TI _),Uu];rfl
structure sB(T:List Tk)(d:Db):Prop where
 ne:∀q,q<T.length->((tS T q).toList == [])=false
 til:∀(n:Nat) (s:St),d.Ya[n]?=some s->oC s.Yd=true->s.til=0
 pr:∀(n:Nat) (s:St),d.Ya[n]?=some s->s.Yd=5->s.XY=jA T ((aq (aa T) (aw (aa T) n)).h+(bu T (aq (aa T) (aw (aa T) n)).h).length+1) ((aq (aa T) (aw (aa T) n)).z-1)/\s.Yh=np (T.getD ((aq (aa T) (aw (aa T) n)).z-1) gQ)
 op:d.XY=if d.XQ=true then jA T ((ee T (fA T)).2+d.XM.length+1) T.length else []
section
variable {T:List Tk} {t:Tk} {d d':Db}
theorem SD(B:Xt)(h:aK B ⟨#[36,61]⟩=true):(B.takeWhile jz).length<B.length:=by
 induction B with
 | nil=>cases h
 | cons x r c =>
  cases e:jz x
  ·rw[VK (by rw[e];simp)];simp
  ·rw[Vp e];have b:aK r ⟨#[36,61]⟩=true:=by
    unfold aK at h ⊢;rw[V6,Uy]at h;rcases h with h | h
    ·exfalso
     have a:x.toList=(⟨#[36,61]⟩:Xs).toList:=(by simpa using h);unfold jz at e;rw[a]at e;exact absurd e (by decide +kernel)
    ·exact h
   have:=c b;simp only[List.length_cons];omega
theorem sB.old(Q:sB T d)(R:gB T d){M:List Sm}{a:St}(f:d.Ya[b]?=some m)(e:aw (aa T++M) b=aw (aa T) b)(g:a.Yd=m.Yd)(i:a.XY=m.XY)(j:a.Yh=m.Yh)(l:a.Yd=5) :
  a.XY=jA (T++[t]) ((aq (aa T++M) (aw (aa T++M) b)).h+(bu (T++[t]) (aq (aa T++M) (aw (aa T++M) b)).h).length+1) ((aq (aa T++M) (aw (aa T++M) b)).z-1)/\a.Yh=np ((T++[t]).getD ((aq (aa T++M) (aw (aa T++M) b)).z-1) gQ):=by
 have o:=(TT.1 f).1;have c:=R.hel.at_ o;obtain⟨p,q⟩:=Q.pr b m f (by rw[<-g];exact l);obtain⟨-,-,-,k⟩:=R.ct b m f;obtain⟨P,r⟩:=(dN T).s _ c;have n:=P.lt;rw[e,jJ _ _ _ c,i,j,qz T [t] _ k,Je T [t] _ _ (by omega),p,q];refine⟨rfl,?_⟩;rw[TG,TG,Uf (by omega)]
theorem sB.nes(Q:sB T d)(b:(t.s.toList == [])=false):∀q,q<(T++[t]).length->((tS (T++[t]) q).toList == [])=false:=fun q a=>by
 by_cases h:q<T.length
 ·rw[fY T [t] q h];exact Q.ne q h
 ·rw[TO,Wl]at a;rw[show q=T.length by omega,oo];exact b
theorem sB.XR(Q:sB T d)(R:gB T d)(j:(t.s.toList == [])=false)(g:cd t.s=false)(c:d'.Ya=d.Ya)(b:d'.XY=if d'.XQ=true then jA (T++[t]) ((ee (T++[t]) (fA T)).2+d'.XM.length+1) (T++[t]).length else []):sB (T++[t]) d':=by
 obtain⟨e,f⟩:=lX (T:=T) (t:=t) g;refine⟨Q.nes j,fun n s a=>?_,fun n s a i=>?_,by rw[f];exact b⟩
 ·rw[c]at a;exact Q.til n s a
 ·rw[c]at a;have:=Q.old (t:=t) R (M:=[]) a (by rw[Uk]) rfl rfl rfl i;rw[Uk]at this;rw[e];exact this
theorem sB.other(Q:sB T d)(R:gB T d)(q:(t.s.toList == [])=false)(j:Sm)(o:aa (T++[t])=aa T++[j])(b:∀(n:Nat) (c:St),d'.Ya[n]?=some c->∃s,d.Ya[n]?=some s/\c.Yd=s.Yd/\c.XY=s.XY/\c.Yh=s.Yh/\(oC s.Yd=true->c.til=s.til))(a:d'.XY=[]/\d'.XQ=false):sB (T++[t]) d':=by
 refine⟨Q.nes q,fun n s i g=>?_,fun n s i p=>?_,by rw[a.1,a.2];rfl⟩
 ·obtain⟨u,e,f,-,-,m⟩:=b n s i;rw[f]at g;rw[m g];exact Q.til n u e g
 ·obtain⟨u,e,f,k,l,-⟩:=b n s i;rw[o];exact Q.old R e (R.hel.ix j (TT.1 e).1) f k l p
theorem sB.first(Q:sB T d)(R:gB T d)(f:(t.s.toList == [])=false)(x:fA T=T.length)(b:d.XQ=false)(a:(ay d t.s).1=0):sB (T++[t]) (ay d t.s).2:=by
 have r:d.XY=[]:=by rw[Q.op,b];rfl
 have i:d.XY=if d.XQ=true then jA (T++[t]) ((ee (T++[t]) (fA T)).2+d.XM.length+1) (T++[t]).length else []:=by rw[r,b];rfl
 have e:∀(n:Nat) (c:St),d.Ya[n]?=some c->∃s,d.Ya[n]?=some s/\c.Yd=s.Yd/\c.XY=s.XY/\c.Yh=s.Yh/\(oC s.Yd=true->c.til=s.til):=fun n c h=>⟨c,h,rfl,rfl,rfl,fun _=>rfl⟩
 unfold ay at *;by_cases k:(t.s.toList == [36,123])=true
 ·rw[TJ k];obtain⟨j,-⟩:=nz (T:=T) (t:=t) x (by rw[(jW (dr k)).2.2];decide);exact Q.other R f _ j e ⟨r,b⟩
 rw[TH k]at a ⊢;by_cases l:(t.s.toList == [36,125])=true
 ·rw[TJ l]at a ⊢;cases A:d.Yf.getLast? with
  | none=>rw[A]at a;cases a
  | some q =>
   simp only;obtain⟨j,-⟩:=nz (T:=T) (t:=t) x (by rw[(jW (dr l)).2.2];decide);refine Q.other R f _ j (fun n c g=>?_) (by unfold cQ dw;split <;> exact⟨r,b⟩);unfold cQ dw at g;split at g
   ·exact e n c g
   ·obtain⟨v,B,C⟩:=oR g;refine⟨v,B,?_⟩;rw[C];split
    ·unfold lK;split
     ·next h=>exact⟨rfl,rfl,rfl,fun w=>by rw[h.2]at w;cases w⟩
     ·exact⟨rfl,rfl,rfl,fun _=>rfl⟩
    ·exact⟨rfl,rfl,rfl,fun _=>rfl⟩
 rw[TH l]at a ⊢;by_cases m:(t.s.toList == [36,99])=true
 ·rw[TJ m]at a ⊢;by_cases y:0<d.Yf.length
  ·rw[TJ y]at a;cases a
  ·rw[TH y];exact Q.XR R f (fO m (by decide)) rfl i
 rw[TH m]at a ⊢;by_cases o:(t.s.toList == [36,118])=true
 ·rw[TJ o];exact Q.XR R f (fO o (by decide)) rfl i
 rw[TH o]at a ⊢;by_cases p:(t.s.toList == [36,100])=true
 ·rw[TJ p];exact Q.XR R f (fO p (by decide)) rfl i
 rw[TH p]at a ⊢;split at a
 ·cases a
 ·next z =>
  rw[TH z];unfold bU at *;cases u:dC t.s
  ·rw[u,TH (by simp)]at a;split at a
   ·cases a
   ·next D =>
    split at a
    ·cases a
    ·next E =>
     rw[TH (by simp),TH D,TH E];exact Q.XR R f (rx u) rfl i
  ·rw[u,TJ rfl]at a;cases a
theorem sB.key(Q:sB T d)(R:gB T d)(c:(t.s.toList == [])=false)(b:d.XQ=false)(a:(aJ d t.s).1=0):sB (T++[t]) (aJ d t.s).2:=by
 have k:d.XY=[]:=by rw[Q.op,b];rfl
 have e:d.XY=if d.XQ=true then jA (T++[t]) ((ee (T++[t]) (fA T)).2+d.XM.length+1) (T++[t]).length else []:=by rw[k,b];rfl
 unfold aJ at *;split
 ·next h=>exact Q.XR R c (fO h (by decide)) rfl e
 ·next f =>
  rw[TH f]at a;split
  ·next h=>exact Q.XR R c (fO h (by decide)) rfl e
  ·next g =>
   rw[TH g]at a;split
   ·next h=>exact Q.XR R c (fO h (by decide)) rfl e
   ·next i =>
    rw[TH i]at a;split
    ·next h=>exact Q.XR R c (fO h (by decide)) rfl e
    ·next j=>rw[TH j]at a;cases a
theorem sB.body(Q:sB T d)(R:gB T d)(x:(t.s.toList == [])=false){B:Xt}(I:ee T (fA T)=(r,b))(w:fA T<b)(G:b<=T.length)(C:fm r.toList d.Yd)(N:eF T b T.length=B)(p:d.XQ=aK B ⟨#[36,61]⟩)(m:d.XM=B.takeWhile jz)(c:(aZ d t.s (np t)).1=0):sB (T++[t]) (aZ d t.s (np t)).2:=by
 have v:(ee (T++[t]) (fA T)).2=b:=by rw[oX I w G C]
 have f:=Q.op;rw[I]at f;simp only at f;have E:B.length=T.length-b:=by rw[<-N,ma,Uh,UK]
 have F:d.XQ=true->b+d.XM.length+1<=T.length:=fun h=>by
  have:=SD B (by rw[<-p];exact h);rw[<-m]at this;omega
 rw[pj C]at *;by_cases z:(t.s.toList == [36,46])=true
 ·rw[TJ z]at *;obtain⟨U,-⟩:=Bz z;obtain⟨y,-⟩:=nV T t;rw[TJ U,oX I w G C]at y;simp only at y;have l:bu (T++[t]) b=d.XM:=by
   unfold bu;rw[UP G,tJ _ t (fun u V=>?_) z,m,<-N,ma];have:=vo T b (by omega) u V;unfold cd at this;simp only[Bool.or_eq_false_iff]at this;exact this.1.1
  unfold mt at *;split at c
  ·cases c
  ·next P =>
   rw[TH P];split at c
   ·cases c
   ·next k =>
    rw[TH k];simp only;cases a:((d.Yd==7)||(d.Yd==8))
    ·simp only[Bool.or_eq_false_iff]at a;have D:(aX d (np t)).Ya=d.Ya++[⟨d.Yd,d.Ye,d.XM,d.XY,np t,0⟩]:=by
      unfold aX nF nX;rw[a.1,a.2];simp only[Bool.false_eq_true,if_false];split <;> rfl
     have L:kF (aa T++[(⟨fA T,T.length+1,b,r⟩:Sm)]) (aa T).length=true:=(by rw[t8];show _=true;rw[Ds C,a.1,a.2];rfl);have M:∀{n:Nat} {s:St},(aX d (np t)).Ya[n]?=some s->d.Ya[n]?=some s∨(n=d.Ya.length/\s=⟨d.Yd,d.Ye,d.XM,d.XY,np t,0⟩):=fun {n s} i=>by
      rw[D]at i;by_cases J:n<d.Ya.length
      ·rw[Uf J]at i;exact TZ i
      ·have e:n=d.Ya.length:=by
        have:=(TT.1 i).1;rw[TO,Wl]at this;omega
       subst e;rw[Ua (TI _),UM]at i;exact TU ⟨rfl,(U5 i).symm⟩
     refine⟨Q.nes x,fun n s i S=>?_,fun n s i j=>?_,rfl⟩
     ·rcases M i with h | ⟨-,h⟩
      ·exact Q.til n s h S
      ·rw[h]
     ·rw[y];rcases M i with h | ⟨J,h⟩
      ·exact Q.old R h (R.hel.ix _ (TT.1 h).1) rfl rfl rfl j
      ·subst J;have O:aw (aa T++[(⟨fA T,T.length+1,b,r⟩:Sm)]) d.Ya.length=(aa T).length:=by
        unfold aw;rw[nB,TJ L,R.hel.len,TG,Ua (TI _),UM];rfl
       rw[O,lx];simp only;rw[h]at j ⊢;simp only at j ⊢;have H:d.XQ=true:=by
        cases e:d.XQ
        ·exact absurd ⟨by rw[j];rfl,e⟩ k
        ·rfl
       rw[l,UZ,Je T [t] _ _ (TI _),f,H,TJ rfl];refine⟨rfl,?_⟩;rw[TG,Ua (TI _),UM];rfl
    ·have D:(aX d (np t)).Ya=d.Ya:=by
      unfold aX eD;rw[Uy]at a;split
      ·rfl
      ·next q=>rw[TJ (a.resolve_left q)]
     exact Q.other R x _ y (fun n W h=>⟨W,by rw[<-D];exact h,rfl,rfl,rfl,fun _=>rfl⟩) ⟨rfl,rfl⟩
 ·rw[TH z]at *;by_cases o:(t.s.toList == [36,61])=true/\(d.Yd==5)=true/\d.XQ=false
  ·rw[TJ o]at *;unfold cv at *;split at c
   ·cases c
   ·next g =>
    rw[TH g];refine Q.XR R x (fO o.1 (by decide)) rfl ?_;show d.XY=if true=true then _ else _;rw[TJ rfl,f,o.2.2,TH (by simp),v];have K:aK B ⟨#[36,61]⟩=false:=by rw[<-p];exact o.2.2
    have:d.XM.length=T.length-b:=(by rw[m,tZ B K,E]);show _=jA (T++[t]) (b+d.XM.length+1) (T++[t]).length;rw[this,TO,Wl,show b+(T.length-b)+1=T.length+1 by omega,wX]
  ·rw[TH o]at *;cases A:dC t.s
   ·rw[A,TH (by simp)]at c;rw[TH (by simp)];split at c
    ·next g =>
     rw[TJ g];refine Q.XR R x (rx A) rfl ?_;show d.XY++[(t.s,np t)]=if d.XQ=true then _ else _;rw[f,TJ g,TJ g,v];exact(OG T t _ (F g)).symm
    ·next g =>
     rw[TH g];split at c
     ·next k =>
      rw[TJ k];refine Q.XR R x (rx A) rfl ?_;show d.XY=if d.XQ=true then _ else _;rw[f,TH g,TH g]
     ·next k=>simp only at c;rw[c]at k;exact absurd rfl k
   ·rw[A,TJ rfl]at c;cases c
theorem sB.step(Q:sB T d)(m:uK T d)(R:gB T d)(i:(t.s.toList == [])=false)(c:(aZ d t.s (np t)).1=0):sB (T++[t]) (aZ d t.s (np t)).2:=by
 rcases m with ⟨k,f,b,a,l⟩ | ⟨k,f,b,a,l,r,q⟩ | ⟨v,j,B,f,g,p,o,n,a,b,u,l,w⟩
 ·have e:aZ d t.s (np t)=ay d t.s:=by unfold aZ;rw[f];rfl
  rw[e]at c ⊢;exact Q.first R i k a c
 ·have e:aZ d t.s (np t)=aJ d t.s:=by unfold aZ;rw[f];rfl
  rw[e]at c ⊢;exact Q.key R i a c
 ·exact Q.body R i f g p o n a b c
end
theorem RB(h:z0=⟨[],[],[],[],[],[],[],[],0,⟨#[]⟩,[],false,[]⟩):sB [] z0:=by
 subst h;exact⟨fun q a=>(by simp at a),(fun n s h=>by cases h),(fun n s h=>by cases h),rfl⟩
section
variable {T:List Tk} {t:Tk} {d:Db}
structure qt(T:List Tk)(d:Db):Prop where
 e:tA T (aa T) d
 o:uK T d
 u:∀j,j<T.length->aY T (aa T) j=0
 b:jZ T=(d.Yf.length:Int)
 r:gB T d
 f:rW d
 p:sB T d
theorem CZ(T:List Tk)(t:Tk):jZ (T++[t])=aR (jZ T) t.s:=by
 unfold jZ;rw[VG];rfl
theorem qt.step(I:qt T d)(m:T.length<=100000)(F:(t.s.toList == [])=false)(p:Pl)(J:p=np t):aY (T++[t]) (aa (T++[t])) T.length=(aZ d t.s p).1/\((aZ d t.s p).1=0->qt (T++[t]) (aZ d t.s p).2):=by
 obtain⟨z,q⟩:=BG T m I.u;have v:=CO T t m I.u;have g:aY (T++[t]) (aa (T++[t])) T.length=(aZ d t.s p).1/\((aZ d t.s p).1=0->tA (T++[t]) (aa (T++[t])) (aZ d t.s p).2/\uK (T++[t]) (aZ d t.s p).2):=by
  rcases I.o with ⟨n,i,c,a,k⟩ | ⟨n,i,c,a,k,x,w⟩ | ⟨g,D,B,i,l,E,C,A,a,c,y,k,G⟩
  ·have e:aZ d t.s p=ay d t.s:=(by unfold aZ;rw[i];rfl);rw[v,TJ n.symm,e];exact GD z q I.e n i c a k F
  ·have e:aZ d t.s p=aJ d t.s:=(by unfold aZ;rw[i];rfl);obtain⟨M,N⟩:=Ob (t:=t) z q I.e n c a k x w;rw[v,TH (by omega),M,TJ (by simp),e];exact N
  ·rw[v,TH (by omega),oX i l E C,TH (by simp only;omega)];simp only;rw[A];exact Lp z q I.e i l E C A a c y k G p
 refine⟨g.1,fun h=>?_⟩;obtain⟨K,L⟩:=g.2 h;refine⟨K,L,fun j H=>?_,?_,gB.step I.o I.e I.u I.r m p h,rW.step I.o I.e I.r I.f p h,by rw[J]at h ⊢;exact I.p.step I.o I.r F h⟩
 ·rw[TO,Uw,UE]at H;by_cases e:j<T.length
  ·exact sI T [t] m I.u j e
  ·have e:j=T.length:=(by omega);rw[e,g.1];exact h
 ·rw[CZ,I.b,Ey I.o t.s p h]
theorem II(T:List Tk)(h:0<T.length):∃u,T.getLast?=some u/\u.s=tS T (T.length-1):=by
 rw[VL,TF (by omega)];refine⟨_,rfl,?_⟩;unfold tS;rw[TG,TF (by omega)];rfl
theorem qt.open(I:qt T d):lM d=!dH T:=by
 have p:=dN T;have t:=I.b;have a:fA T<T.length->dH T=false:=fun h=>by
  obtain⟨u,i,j⟩:=II T (by omega);have:=p.n (T.length-1) (by unfold fA at h;omega) (by omega);unfold dH;rw[i];simp only;rw[j,this];rfl
 unfold lM;rcases I.o with ⟨D,g,f,c,x⟩ | ⟨D,g,f,c,x,H,G⟩ | ⟨r,w,B,g,E,M,m,L,c,f,J,x,K⟩
 ·rw[g];have y:(bne (0:Int) 0)=false:=rfl;rw[y,U0];by_cases C:T.length=0
  ·have e:T=[]:=Us C;rw[e]at t ⊢;have:d.Yf.length=0:=by
    have h:jZ []=0:=rfl;omega
   rw[this];rfl
  ·obtain⟨u,i,j⟩:=II T (by omega);have F:0<(aa T).length:=by
    rcases Nat.eq_zero_or_pos (aa T).length with h | h
    ·have:=F0 T;rw[h]at this;unfold lg at this;rw[TH (by omega)]at this;omega
    ·exact h
   have q:(aq (aa T) ((aa T).length-1)).z=T.length:=by
    have:=F0 T;unfold lg at this;rw[TJ F]at this;omega
   have v:=(p.s ((aa T).length-1) (by omega)).1.e;rw[q]at v;unfold dH;rw[i];simp only;rw[j,v,Vk,t];by_cases q:d.Yf.length=0
   ·rw[q];rfl
   ·have A:((d.Yf.length:Int)==0)=false:=XG (by omega);rw[A,U6 (show 0<d.Yf.length by omega)];rfl
 ·rw[g,a (by omega)];rfl
 ·rw[a (by omega)];have:(d.Yd != 0)=true:=by
   generalize d.Yd=k at m ⊢;generalize r.toList=l at m
   (rcases m with ⟨rfl,rfl⟩ | ⟨rfl,rfl⟩ | ⟨rfl,rfl⟩ | ⟨rfl,rfl⟩ | ⟨rfl,rfl⟩ | ⟨rfl,rfl⟩ | ⟨rfl,rfl⟩) <;> rfl
  rw[this];rfl
theorem MY{d:Db}(h:d=⟨[],[],[],[],[],[],[],[],0,⟨#[]⟩,[],false,[]⟩):qt [] d:=by
 subst h;refine⟨⟨rfl,fun x=>rfl,⟨rfl,rfl,fun i a=>(by simp at a)⟩,⟨rfl,rfl,fun i a=>(by simp at a)⟩⟩,uK.none rfl rfl rfl rfl rfl,fun j b=>(by simp at b),rfl,⟨ov.nil,(fun n s h=>by cases h),rfl⟩,⟨(fun n s h=>by cases h),(fun n m s u h=>by cases h),fun h=>by cases h⟩,RB rfl⟩
end
section
variable (rec:Nat->List Bool->List Tk->List Tk×List Bool) (fs:Fs)
theorem IR(t:Tk)(r:List Tk)(b:List Bool)(a:List Tk)(h:((t.Yl==0)&&(t.s.toList == []))=true):cZ rec fs (t :: r) b a=((if dH a=true then a else a++[rZ t 7]),b):=by
 rw[cZ.eq_def];exact TJ h
theorem ym(t:Tk)(r:List Tk)(b:List Bool)(a:List Tk)(h:((t.Yl==0)&&(t.s.toList == []))=false)(c:(t.s.toList == [36,91])=false):cZ rec fs (t :: r) b a=cZ rec fs r b (a++[t]):=by
 rw[cZ.eq_def];simp only;rw[TH (by rw[h];simp),TJ c]
theorem NO(t:Tk)(r:List Tk)(b:List Bool)(a:List Tk)(h:((t.Yl==0)&&(t.s.toList == []))=false)(c:(t.s.toList == [36,91])=true)(d:dH a=false):cZ rec fs (t :: r) b a=(a++[rZ t 4],b):=by
 rw[cZ.eq_def];simp only;rw[TH (by rw[h];simp),TH (by rw[c];simp),TJ d]
theorem IS(t a:Tk)(c:List Bool)(b:List Tk)(h:((t.Yl==0)&&(t.s.toList == []))=false)(d:(t.s.toList == [36,91])=true)(e:dH b=true):cZ rec fs [t,a] c b=(b++[rZ a (dK fs a.s a.Yl)],c):=by
 rw[cZ.eq_def];simp only;rw[TH (by rw[h];simp),TH (by rw[d];simp),TH (by rw[e];simp)]
theorem IT(t a b:Tk)(r:List Tk)(d:List Bool)(c:List Tk)(h:((t.Yl==0)&&(t.s.toList == []))=false)(e:(t.s.toList == [36,91])=true)(f:dH c=true):cZ rec fs (t :: a :: b :: r) d c =
  if(dK fs a.s a.Yl==0)=false then(c++[rZ a (dK fs a.s a.Yl)],d)
  else if(eB b.s b.Yl==0)=false then(c++[rZ b (eB b.s b.Yl)],d)
  else if d.getD (bS fs a.s).toNat true=true then cZ rec fs r d c
  else if fj (rec (bS fs a.s).toNat d c).1=true then rec (bS fs a.s).toNat d c
  else cZ rec fs r (rec (bS fs a.s).toNat d c).2 (rec (bS fs a.s).toNat d c).1:=by
 rw[cZ.eq_def];simp only;rw[TH (by rw[h];simp),TH (by rw[e];simp),TH (by rw[f];simp)]
theorem BN(g:∀j d c,∃V,(rec j d c).1=c++V)(n:Nat):∀L,L.length<=n->∀d c,∃V,(cZ rec fs L d c).1=c++V:=by
 induction n with
 | zero =>
  intro L f d c;have:L=[]:=Us (by omega);subst this;exact⟨[],by rw[cZ.eq_def];simp⟩
 | succ n m =>
  intro L f d c;cases L with
  | nil=>exact⟨[],by rw[cZ.eq_def];simp⟩
  | cons t r =>
   simp only[List.length_cons]at f;cases h:((t.Yl==0)&&(t.s.toList == []))
   ·cases e:(t.s.toList == [36,91])
    ·rw[ym rec fs t r d c h e];obtain⟨V,k⟩:=m r (by omega) d (c++[t]);exact⟨t :: V,by rw[k];simp⟩
    ·cases i:dH c
     ·rw[NO rec fs t r d c h e i];exact⟨_,rfl⟩
     ·match r,f with
      | [],_ =>
       refine⟨[],?_⟩;rw[cZ.eq_def];simp only;rw[TH (by rw[h];simp),TH (by rw[e];simp),TH (by rw[i];simp)];simp
      | [a],_=>rw[IS rec fs t a d c h e i];exact⟨_,rfl⟩
      | a :: b :: r',f =>
       simp only[List.length_cons]at f;rw[IT rec fs t a b r' d c h e i];split
       ·exact⟨_,rfl⟩
       ·split
        ·exact⟨_,rfl⟩
        ·split
         ·exact m r' (by omega) d c
         ·obtain⟨V,k⟩:=g (bS fs a.s).toNat d c;split
          ·exact⟨V,k⟩
          ·obtain⟨o,l⟩:=m r' (by omega) (rec (bS fs a.s).toNat d c).2 (rec (bS fs a.s).toNat d c).1;exact⟨V++o,by rw[l,k];simp⟩
   ·rw[IR rec fs t r d c h];simp only;split
    ·exact⟨[],by simp⟩
    ·exact⟨_,rfl⟩
end
theorem vq(n:Nat):∀j b a,∃V,(eS w n j b a).1=a++V:=by
 induction n with
 | zero=>intro j b a;exact⟨[],by simp[eS]⟩
 | succ n c=>intro j b a;rw[eS];exact BN (eS w n) w c _ _ (TI _) _ _
def Jg(L:List Tk):Prop:=∀t∈L,t.Yl=0
structure QS(fs:Fs)(bg sn:List Bool):Prop where
 b:bg.length=4
 s:sn.length=fs.length
 e:∀j,j<fs.length->bg.getD j true=sn.getD j true
theorem QS.set{a c:List Bool}(h:QS u a c)(d:u.length<=4)(k:Nat)(g:k<u.length):QS u (a.set k true) (c.set k true):=by
 refine⟨by rw[Uz];exact h.b,by rw[Uz];exact h.s,fun j f=>?_⟩;have:=h.b;have:=h.s;rw[TG,TG,UN,UN];by_cases e:k=j
 ·rw[TJ e,TJ e,TJ (by omega),TJ (by omega)]
 ·rw[TH e,TH e];have:=h.e j f;rw[TG,TG]at this;exact this
def rN(fs:Fs)(N:Nat)(res:Hj)(R:List Tk×List Bool):Prop :=
 (res.1=cY/\qt R.1 res.2.2/\Jg R.1/\QS fs res.2.1 R.2/\R.1.length+1025*aV R.2<=N) ∨
 (∃(W:List Tk) (u:Tk) (d:Db),R.1=W++[u]/\(u.Yl==0)=false/\qt W d/\Jg W/\res.1=(u.Yl,np u)) ∨
 ∃(W:List Tk) (t:Tk) (V:List Tk) (d:Db) (r:Int),R.1=W++t :: V/\t.Yl=0/\qt W d/\W.length+1<=N/\aY (W++[t]) (aa (W++[t])) W.length=r/\(r==0)=false/\res.1=(r,np t)
theorem rN.good(a:q.1=cY)(c:qt g.1 q.2.2)(d:Jg g.1)(e:QS u q.2.1 g.2)(f:g.1.length+1025*aV g.2<=b):rN u b q g:=TZ ⟨a,c,d,e,f⟩
theorem rN.ends(a:g.1=k++[x])(c:(x.Yl==0)=false)(d:qt k B)(e:Jg k)(f:q.1=(x.Yl,np x)):rN u b q g:=TU (TZ ⟨k,x,B,a,c,d,e,f⟩)
theorem rN.Yl(a:g.1=k++x :: i)(c:x.Yl=0)(d:qt k B)(e:k.length+1<=b)(f:aY (k++[x]) (aa (k++[x])) k.length=v)(j:(v==0)=false)(l:q.1=(v,np x)):rN u b q g:=TU (TU ⟨k,x,i,B,v,a,c,d,e,f,j,l⟩)
theorem zE(h:Jg z):fj z=false:=by
 unfold fj;cases e:z.getLast? with
 | none=>rfl
 | some t =>
  have:=h t (List.mem_of_getLast? e);simp[this]
theorem vm(k:Nat)(b:k<=f.size):(aM (aC f k).1=true->((aC f k).1.text.toList == [])=false/\(aC f k).1.Yl=0)/\(aM (aC f k).1=false->(aC f k).1.text=⟨#[]⟩/\((aC f k).1.Yh=true->(aC f k).1.Yl=0)):=by
 have e:∀a k,k<=f.size->aM (ci f a k).1=false->(ci f a k).1.text=⟨#[]⟩/\((ci f a k).1.Yh=true->(ci f a k).1.Yl=0):=by
  intro a
  induction a with
  | zero=>intro k _ _;exact⟨rfl,fun h=>by cases h⟩
  | succ a i =>
   intro k b h;have d:=im f k b;rw[ci]at h ⊢;split
   ·next g =>
    rw[TJ g]at h;split
    ·exact⟨rfl,fun h=>by cases h⟩
    ·next c =>
     rw[TH c]at h;exact i _ d.2.1 h
   ·next g =>
    rw[TH g]at h;split
    ·exact⟨rfl,fun h=>by cases h⟩
    ·next c =>
     rw[TH c]at h;exact(uA f k b).2 h
 unfold aC
 suffices hs:∀a k,k<=f.size->(aM (dY f a k).1=true->((dY f a k).1.text.toList == [])=false/\(dY f a k).1.Yl=0)/\(aM (dY f a k).1=false->(dY f a k).1.text=⟨#[]⟩/\((dY f a k).1.Yh=true->(dY f a k).1.Yl=0)) from hs _ _ b
 clear b k;intro a
 induction a with
 | zero=>intro k b;exact⟨fun h=>by simp[dY,aM]at h,fun _=>⟨rfl,fun _=>rfl⟩⟩
 | succ a i =>
  intro k b;have d:=im f k b;have j:=jF f (bR f k).2 d.2.1;rw[dY];split
  ·split
   ·exact i _ j.2
   ·next c =>
    refine⟨fun h=>absurd h c,fun h=>?_⟩;exact e _ _ d.2.1 h
  ·exact uA f k b
theorem Kj(h:(v==0)=false):dK w y v=v:=by unfold dK;exact TJ h
theorem Kk(h:v=0)(a:y=⟨#[]⟩):dK w y v=7:=by
 subst h a;unfold dK;rw[TH (by simp),TJ pK]
theorem FP(h:v=0)(a:(y.toList == [])=false):dK w y v=if dC y=true then 5 else if bS w y<0 then 6 else 0:=by
 subst h;unfold dK;rw[TH (by simp),TH (by rw[a];simp),iQ]
theorem Fc(h:(v==0)=false):eB y v=v:=by unfold eB;exact TJ h
theorem Fd(h:v=0)(a:y=⟨#[]⟩):eB y v=7:=by
 subst h a;unfold eB;rw[TH (by simp),TJ pK]
theorem CR(h:v=0)(a:(y.toList == [])=false):eB y v=if(y.toList == [36,93])=false then 5 else 0:=by
 subst h;unfold eB;rw[TH (by simp),TH (by rw[a];simp)]
theorem NU(ax:w.length<=4)(aT:∀j,j<w.length->(ak w j).size<=1024)(f:Nat):∀n x k c y d b N,x<w.length->k<=(ak w x).size->QS w c y->aV y<=n ->
  ((ak w x).size-k+1)+1025*aV y<=f->qt b d->Jg b->b.length+((ak w x).size-k+1)+1025*aV y<=N->N<=100000 ->
  rN w N (bH w f x k c d) (cZ (eS w n) w (mM (aG w x) (ak w x) k) y b):=by
 induction f with
 | zero=>intro n x k c y d b N _ _ _ _ h;omega
 | succ f ih =>
  intro n x k c y d b N hx hk hS hn hf K T hN U;have hl:=gq (ak w x) k hk;obtain⟨t1,t2⟩:=vm (ak w x) k hk;have C:=K.open;cases D:aM (aC (ak w x) k).1
  ·-- the Yi ends,or a word's stead is taken
   obtain⟨x1,x2⟩:=t2 D;rw[kK _ _ k D];cases F:(aC (ak w x) k).1.Yh
   ·have hr:((aC (ak w x) k).1.Yl==0)=false:=kV D F;have P:((me (aG w x) (ak w x) (aC (ak w x) k).1).Yl==0&&((me (aG w x) (ak w x) (aC (ak w x) k).1).s.toList == []))=false:=(by simp only[me];rw[hr];rfl);have e2:((me (aG w x) (ak w x) (aC (ak w x) k).1).s.toList == [36,91])=false:=(by simp only[me];rw[x1];decide +kernel);rw[ym _ _ _ _ _ _ P e2,xJ w f x k c d D (by rw[F];simp)];refine rN.ends b _ d (by rw[cZ.eq_def]) hr K T ?_;simp[jx,F,me,np,lq]
   ·have P:((me (aG w x) (ak w x) (aC (ak w x) k).1).Yl==0&&((me (aG w x) (ak w x) (aC (ak w x) k).1).s.toList == []))=true:=(by simp only[me];rw[x1,x2 F,pK];rfl);rw[IR _ _ _ _ _ _ P];cases Q:dH b
    ·rw[Q]at C;rw[xJ w f x k c d D (by rw[C];simp)];refine rN.ends b (rZ (me (aG w x) (ak w x) (aC (ak w x) k).1) 7) d (by simp) rfl K T ?_;simp[jx,F,me,np,lq,rZ]
    ·rw[Q]at C;rw[Bm w f x k c d D F C];exact rN.good rfl (by simp only[if_true];exact K) (by simp only[if_true];exact T) hS (by simp only[if_true];omega)
  ·have az:=hl.2.2 D;obtain⟨x1,x2⟩:=t1 D;rw[kL _ _ k hk D];have P:((me (aG w x) (ak w x) (aC (ak w x) k).1).Yl==0&&((me (aG w x) (ak w x) (aC (ak w x) k).1).s.toList == []))=false:=(by simp only[me];rw[x1];simp);cases hi:((aC (ak w x) k).1.text.toList == [36,91])
   ·-- a word is taken
    rw[ym _ _ _ _ _ _ P (by exact hi)];have J:hZ w f x k c d=((if((aZ d (aC (ak w x) k).1.text (lq (aG w x) (ak w x) (aC (ak w x) k).1.pos)).1==0)=true then cY else((aZ d (aC (ak w x) k).1.text (lq (aG w x) (ak w x) (aC (ak w x) k).1.pos)).1,lq (aG w x) (ak w x) (aC (ak w x) k).1.pos),c,(aZ d (aC (ak w x) k).1.text (lq (aG w x) (ak w x) (aC (ak w x) k).1.pos)).2),(aC (ak w x) k).2):=by
     unfold hZ kt;rw[hi];simp
    obtain⟨g1,g2⟩:=K.step (t:=me (aG w x) (ak w x) (aC (ak w x) k).1) (by omega) x1 (lq (aG w x) (ak w x) (aC (ak w x) k).1.pos) rfl;have e3:(me (aG w x) (ak w x) (aC (ak w x) k).1).s=(aC (ak w x) k).1.text:=rfl;rw[e3]at g1 g2;cases h2:((aZ d (aC (ak w x) k).1.text (lq (aG w x) (ak w x) (aC (ak w x) k).1.pos)).1==0)
    ·rw[pD w f x k c d D (by rw[J,h2];simpa using h2),J,h2];obtain⟨V,hV⟩:=BN (eS w n) w (vq w n) _ _ (TI _) y (b++[me (aG w x) (ak w x) (aC (ak w x) k).1]);exact rN.Yl b (me (aG w x) (ak w x) (aC (ak w x) k).1) V d _ (by rw[hV];simp) x2 K (by omega) g1 h2 (by simp[me,np,lq])
    ·rw[zU w f x k c d D (by rw[J,h2];rfl),J];refine ih n x _ c y _ _ N hx hl.2.1 hS hn (by omega) (g2 (by simpa using h2)) ?_ (by simp;omega) U;intro u hu;rcases Ut.1 hu with hu | hu
     ·exact T u hu
     ·rw[T0.1 hu];exact x2
   ·-- an inclusion
    have J:hZ w f x k c d=oe (cU w f) w x (aC (ak w x) k).2 (lq (aG w x) (ak w x) (aC (ak w x) k).1.pos) c d:=by
     unfold hZ kt;rw[hi,TJ rfl]
    have p:∀(W:List Tk) (u:Tk) (fl:pu),sP w x (aC (ak w x) k).2 (lq (aG w x) (ak w x) (aC (ak w x) k).1.pos) d=.inl fl->fl=(u.Yl,np u)->(u.Yl==0)=false->rN w N (bH w (f+1) x k c d) (b++[u],y):=fun W u fl af e h0=>by
     have e2:oe (cU w f) w x (aC (ak w x) k).2 (lq (aG w x) (ak w x) (aC (ak w x) k).1.pos) c d=((fl,c,d),(aC (ak w x) k).2):=by
      unfold oe;rw[af]
     rw[pD w f x k c d D (by rw[J,e2,e];exact h0),J,e2];exact rN.ends b u d rfl h0 K T e
    cases Q:dH b
    ·rw[Q]at C;rw[NO _ _ _ _ _ _ P (by exact hi) Q];exact p b (rZ (me (aG w x) (ak w x) (aC (ak w x) k).1) 4) _ (by unfold sP;rw[TJ (by rw[C];rfl)];rfl) rfl rfl
    ·rw[Q]at C;have v:¬lM d=true:=(by rw[C];simp);obtain⟨z,hz⟩:∃z,z=(aC (ak w x) k).2:=⟨_,rfl⟩
     rw[<-hz]at hl az J p ⊢;have ha:=gq (ak w x) z hl.2.1;obtain⟨a1,a2⟩:=vm (ak w x) z hl.2.1;cases g:aM (aC (ak w x) z).1
     ·obtain⟨y1,y2⟩:=a2 g;rw[kK _ _ z g,IS _ _ _ _ _ _ P (by exact hi) Q];have O:dK w (me (aG w x) (ak w x) (aC (ak w x) z).1).s (me (aG w x) (ak w x) (aC (ak w x) z).1).Yl=if(aC (ak w x) z).1.Yh=true then 7 else(aC (ak w x) z).1.Yl:=by
       cases B:(aC (ak w x) z).1.Yh
       ·exact Kj w _ _ (kV g B)
       ·exact Kk w _ _ (y2 B) y1
      refine p b _ _ (by unfold sP;rw[TH v,TJ g]) (by simp only[jx,rZ,np];rw[O];rfl) ?_;simp only[rZ];rw[O];cases B:(aC (ak w x) z).1.Yh
      ·exact kV g B
      ·rfl
     ·have ap:=ha.2.2 g;obtain⟨y1,y2⟩:=a1 g;obtain⟨o,I⟩:∃o,o=(aC (ak w x) z).2:=⟨_,rfl⟩
      rw[kL _ _ z hl.2.1 g,<-I];rw[<-I]at ha ap;have X:=gq (ak w x) o ha.2.1;obtain⟨b1,b2⟩:=vm (ak w x) o ha.2.1;obtain⟨tl,Y⟩:∃tl,mM (aG w x) (ak w x) o=me (aG w x) (ak w x) (aC (ak w x) o).1 :: tl:=by
       cases i:aM (aC (ak w x) o).1
       ·exact⟨[],kK _ _ o i⟩
       ·exact⟨_,kL _ _ o ha.2.1 i⟩
      rw[Y,IT _ _ _ _ _ _ _ _ P (by exact hi) Q];have O:dK w (me (aG w x) (ak w x) (aC (ak w x) z).1).s (me (aG w x) (ak w x) (aC (ak w x) z).1).Yl=if dC (aC (ak w x) z).1.text=true then 5 else if bS w (aC (ak w x) z).1.text<0 then 6 else 0:=by
       exact FP w _ _ y2 y1
      rw[O];have av:(me (aG w x) (ak w x) (aC (ak w x) z).1).s=(aC (ak w x) z).1.text:=rfl;rw[av];cases H:dC (aC (ak w x) z).1.text
      ·by_cases E:bS w (aC (ak w x) z).1.text<0
       ·simp only[Bool.false_eq_true,if_false,if_pos E];rw[TJ (show((6:Int)==0)=false from rfl)];exact p b _ _ (by unfold sP;rw[TH v,TH (by rw[g];simp),TH (by rw[H];simp),TJ E];rfl) rfl rfl
       ·simp only[Bool.false_eq_true,if_false,if_neg E];rw[TH (show ¬((0:Int)==0)=false by decide)];have ar:eB (me (aG w x) (ak w x) (aC (ak w x) o).1).s (me (aG w x) (ak w x) (aC (ak w x) o).1).Yl=if aM (aC (ak w x) o).1=false then(if(aC (ak w x) o).1.Yh=true then 7 else(aC (ak w x) o).1.Yl) else if((aC (ak w x) o).1.text.toList == [36,93])=false then 5 else 0:=by
         cases i:aM (aC (ak w x) o).1
         ·obtain⟨y3,y4⟩:=b2 i;rw[TJ rfl];cases B:(aC (ak w x) o).1.Yh
          ·exact Fc _ _ (kV i B)
          ·exact Fd _ _ (y4 B) y3
         ·obtain⟨y3,y4⟩:=b1 i;rw[TH (by simp)];exact CR _ _ y4 y3
        rw[ar];cases i:aM (aC (ak w x) o).1
        ·rw[TJ rfl];have ag:((if(aC (ak w x) o).1.Yh=true then 7 else(aC (ak w x) o).1.Yl)==0)=false:=by
          cases B:(aC (ak w x) o).1.Yh
          ·exact kV i B
          ·rfl
         rw[TJ ag];exact p b _ _ (by unfold sP;rw[TH v,TH (by rw[g];simp),TH (by rw[H];simp),TH E,<-I,TJ i];rfl) rfl ag
        ·simp only[Bool.true_eq_false,if_false];cases ad:((aC (ak w x) o).1.text.toList == [36,93])
         ·rw[TJ rfl,TJ (show((5:Int)==0)=false from rfl)];exact p b _ _ (by unfold sP;rw[TH v,TH (by rw[g];simp),TH (by rw[H];simp),TH E,<-I,TH (by rw[i];simp),TJ ad];rfl) rfl rfl
         ·simp only[Bool.true_eq_false,if_false];rw[TH (show ¬((0:Int)==0)=false by decide)]
          -- the Yi is named
          have a3:=X.2.2 i;have al:tl=mM (aG w x) (ak w x) (aC (ak w x) o).2:=by
           rw[kL _ _ o ha.2.1 i]at Y;exact(XL Y).2.symm
          rw[al];obtain⟨j,hj⟩:∃j,j=(bS w (aC (ak w x) z).1.text).toNat:=⟨_,rfl⟩
          have M:j<w.length:=by
           rcases qD (aC (ak w x) z).1.text w with h | ⟨q,hq,h⟩
           ·rw[h]at E;omega
           ·rw[hj,h,UF];exact hq
          rw[<-hj];have l:hZ w f x k c d=(cU w f j c d,(aC (ak w x) o).2):=by
           rw[J];unfold oe sP;rw[TH v,TH (by rw[g];simp),TH (by rw[H];simp),TH E,<-I,TH (by rw[i];simp),TH (by rw[ad];simp),<-hj]
          have G:=hS.e j M;cases L:c.getD j true
          ·rw[L]at G;have aS:y[j]?=some false:=by
            have:=hS.s;rw[TF (by omega)];rw[TG,TF (by omega)]at G;exact congrArg some G.symm
           have a4:=l6 y j aS;rw[TH (by rw[<-G];simp)];have A:cU w f j c d=bH w f j 0 (c.set j true) d:=(by unfold cU;rw[L,TH (by simp)]);obtain⟨m,hm⟩:∃m,n=m+1:=⟨n-1,by omega⟩
           have er:eS w n j y b=cZ (eS w m) w (mM (aG w j) (ak w j) 0) (y.set j true) b:=(by rw[hm,eS,Az]);have a0:=aT j M;have R1:=ih m j 0 (c.set j true) (y.set j true) d b (b.length+1025*aV y) M (Up _) (hS.set ax j M) (by omega) (by omega) K T (by omega) (by omega);rw[<-er,<-A]at R1;have ai:=vq w n j y b;generalize eS w n j y b=S at *;rcases R1 with ⟨Z,R,r3,r4,r5⟩ | ⟨W,u,d0,Z,R,r3,r4,r5⟩ | ⟨W,t,V,d0,r,Z,R,r3,r4,r5,r6,r7⟩
           ·rw[zE r3,TH (by simp),zU w f x k c d D (by rw[l,Z];rfl),l];have a5:aV S.2<=aV y:=by
             obtain⟨V,hV⟩:=ai;rw[hV,TO]at r5;omega
            exact ih n x _ _ S.2 _ S.1 N hx X.2.1 r4 (by omega) (by simp only;omega) R r3 (by simp only;omega) U
           ·have ac:fj S.1=true:=(by unfold fj;rw[Z,VS];simp only;rw[R];rfl);rw[ac,TJ rfl,pD w f x k c d D (by rw[l,r5];exact R),l];exact rN.ends W u d0 Z R r3 r4 r5
           ·rw[pD w f x k c d D (by rw[l,r7];exact r6),l];cases ac:fj S.1
            ·rw[TH (by simp)];obtain⟨V2,ao⟩:=BN (eS w n) w (vq w n) _ (mM (aG w x) (ak w x) (aC (ak w x) o).2) (TI _) S.2 S.1;exact rN.Yl W t (V++V2) d0 r (by rw[ao,Z];simp) R r3 (by omega) r5 r6 r7
            ·rw[TJ rfl];exact rN.Yl W t V d0 r Z R r3 (by omega) r5 r6 r7
          ·rw[L]at G;have A:cU w f j c d=(cY,c,d):=(by unfold cU;rw[L,TJ rfl]);rw[TJ G.symm,zU w f x k c d D (by rw[l,A];rfl),l,A];exact ih n x _ c y d b N hx X.2.1 hS hn (by omega) K T (by omega) U
      ·simp only[if_true];rw[TJ (show((5:Int)==0)=false from rfl)];exact p b _ _ (by unfold sP;rw[TH v,TH (by rw[g];simp),TJ H];rfl) rfl rfl
def MS(t:Tk):pu:=(t.Yl,np t)
def fT(fs:Fs)(k:Nat):pu :=
 if((zO (cG fs k).1 (aa (cG fs k).1)).Yl==0)=false then MS (zO (cG fs k).1 (aa (cG fs k).1)) else MS (cG fs k).2
theorem Iq(h:qt z z0):zO z (aa z)=gQ:=QH h.u
theorem xy(k:w.length<=4)(p:∀j,j<w.length->(ak w j).size<=1024)(n:H<w.length) :
  (bn w H).1=fT w H/\(((bn w H).1.1==0)=true->qt (cG w H).1 (bn w H).2.2/\(cG w H).1.length<=10000):=by
 have i:QS w Ih (List.replicate w.length false):=⟨rfl,by simp,fun j l=>by
  rw[TG,TG,U4,TJ l]
  match j,(show j<4 by omega) with
  | 0,_=>rfl
  | 1,_=>rfl
  | 2,_=>rfl
  | 3,_=>rfl⟩
 have o:(List.replicate w.length false)[H]?=some false:=by rw[U4,TJ n]
 have z:=l6 _ H o;rw[nY]at z;have C:=p H n;have G:bn w H=bH w 5000 H 0 (Ih.set H true) fS:=by
  unfold bn cU;rw[i.e H n,TG,o];rfl
 have I:eS w w.length H (List.replicate w.length false) []=cZ (eS w (w.length-1)) w (mM (aG w H) (ak w H) 0) ((List.replicate w.length false).set H true) []:=by
  obtain⟨m,K⟩:∃m,w.length=m+1:=⟨w.length-1,by omega⟩
  have:w.length-1=m:=by omega
  rw[this]
  conv=>lhs;rw[show eS w w.length=eS w (m+1) by rw[K]]
  rw[eS,Az]
 have B:=NU w k p 5000 (w.length-1) H 0 (Ih.set H true) ((List.replicate w.length false).set H true) fS [] 5000 n (Up _) (i.set k H n) (by omega) (by omega) (MY rfl) (fun t L=>by cases L) (by simp only[List.length_nil];omega) (by omega);rw[<-G,<-I]at B;have q:(eS w w.length H (List.replicate w.length false) []).1=qq w H:=rfl;generalize eS w w.length H (List.replicate w.length false) []=N at *;unfold fT cG;rcases B with ⟨b,d,f,D,g⟩ | ⟨W,u,F,b,d,f,D,g⟩ | ⟨W,t,V,F,r,b,d,f,D,g,A,E⟩
 ·rw[q]at d f g;simp only[zE f,Bool.false_eq_true,if_false];rw[Iq d,TH (by decide)];exact⟨b,fun _=>⟨d,by omega⟩⟩
 ·rw[q]at b;have a:fj (qq w H)=true:=by unfold fj;rw[b,VS];simp only;rw[d];rfl
  rw[a,TJ rfl,b,List.dropLast_concat,VS];simp only[Option.getD_some];rw[Iq f,TH (by decide)];exact⟨g,fun h=>by rw[g]at h;simp only at h;rw[d]at h;cases h⟩
 ·rw[q]at b;obtain⟨c,s⟩:∃c,(if fj (qq w H)=true then((qq w H).dropLast,(qq w H).getLast?.getD gQ) else(qq w H,gQ)).1=(W++[t])++c:=by
   cases a:fj (qq w H)
   ·rw[TH (by simp)];exact⟨V,by simp only;rw[b];simp⟩
   ·rw[TJ rfl];cases V with
    | nil =>
     unfold fj at a;rw[b,VS]at a;simp only[d]at a;cases a
    | cons v V=>exact⟨(v :: V).dropLast,by simp only;rw[b,List.dropLast_append_of_ne_nil (by simp),List.dropLast_cons_of_ne_nil (by simp)];simp⟩
  rw[s];have M:=sI W (t :: c) (by omega) f.u;have x:=xl (W++[t]) c (by simp;omega) W.length (by simp) (fun j l=>sI W [t] (by omega) f.u j l);rw[g]at x
  have y:=MM (T:=(W++[t])++c) (S:=aa ((W++[t])++c)) (k:=W.length) (by simp) (by rw[x];exact A) (fun j l=>by
   have:=M j l;rw[show W++t :: c=(W++[t])++c by simp]at this;exact this)
  have J:((W++[t])++c).getD W.length gQ=t:=by
   rw[TG,Vj,Ua (TI _),UM];simp
  rw[y,x,J];simp only;rw[TJ A];exact⟨E,fun h=>by rw[E]at h;simp only at h;rw[A]at h;cases h⟩
theorem JC:((aI y H).toNat:Int)=aI y H:=by
 unfold aI;split <;> simp
theorem PI:(xU (SO x)).map LA=tn x:=by
 unfold xU tn;rw[List.map_map];apply VU;intro j a
 show(⟨((aI x.s j).toNat:Int),x.Yi,x.Yj,x.Yk+j⟩:Lt)=⟨aI x.s j,x.Yi,x.Yj,x.Yk+j⟩
 rw[JC]
theorem GV:((jA i n H).flatMap xU).map LA=eO i n H:=by
 unfold jA eO;rw[List.map_flatMap,List.flatMap_map];congr 1
 funext t
 exact PI t
def Sg(T:List Tk)(S:List Sm)(l:List St)(a A:Nat)(x:Xs):Prop:=(jH l x a=none/\dX T S A x<0)∨∃n,jH l x a=some n/\n<l.length/\dX T S A x=(aw S n:Nat)
section
variable {T:List Tk} {S:List Sm} {l:List St} {a A:Nat}
theorem Q9(f:∀i j,i<l.length->j<l.length->aw S i=aw S j->i=j){d:Xv}(c:∀b∈d,b<l.length)(g:b<l.length):jy d b=(d.map (aw S)).contains (aw S b):=by
 unfold jy;rw[UY,UG,V4,UT];constructor
 ·rintro ⟨y,a,e⟩;have e:y=b:=by simpa using e
  exact⟨y,a,by rw[e]⟩
 ·rintro ⟨y,a,e⟩;exact⟨y,a,by rw[f y b (c y a) g e];simp⟩
theorem Mw(y:∀x,(x.toList == [])=false->Sg T S l a A x)(w:∀q,q<T.length->((tS T q).toList == [])=false)(v:∀i j,i<l.length->j<l.length->aw S i=aw S j->i=j)(b z:Nat)(D:z<T.length)(m:Nat) :
  ∀k c,b+k+m=z->(∀n∈c,n<l.length) ->
  rV T S A z m (b+k) (c.map (aw S))=rh T S (mY (np (T.getD z gQ)) (Ct (b7 l a (np (T.getD z gQ)) k (jA T (b+k) z) c).1.2 ((jA T b z).drop (b7 l a (np (T.getD z gQ)) k (jA T (b+k) z) c).1.1) ⟨(b7 l a (np (T.getD z gQ)) k (jA T (b+k) z) c).2,[],[],0,false⟩)):=by
 induction m with
 | zero =>
  intro k c h f;rw[Vs]at h;rw[h,wX,b7,rV];rfl
 | succ m C =>
  intro k c h f;have s:=yX T (b+k) z (by omega) (by omega);by_cases e:((tS T (b+k)).toList == [41])=true
  ·have d:b7 l a (np (T.getD z gQ)) k (jA T (b+k) z) c=((k+1,cY),c):=(by rw[s,b7,TJ e]);rw[d,rV,TJ e];unfold j8;have o:EV (T.getD z gQ)=LA (0,np (T.getD z gQ)):=rfl;have g:Ct cY ((jA T b z).drop (k+1)) ⟨c,[],[],0,false⟩=Bl ((jA T (b+k+1) z).flatMap xU) ⟨c,[],[],0,false⟩:=by
    unfold Ct;rw[TJ (by rfl),EL,AI,Wj]
   simp only;rw[g,o,<-GV];exact FH T S _ _ _ _ _ _ _ _ ⟨rfl,rfl,rfl,rfl,(fun x u=>by rw[nr]at u;cases u),TZ (by rw[nr];rfl),fun _=>nr⟩
  ·rw[rV,TH e];rcases y (tS T (b+k)) (w _ (by omega)) with ⟨r,o⟩ | ⟨n,r,t,o⟩
   ·have d:b7 l a (np (T.getD z gQ)) k (jA T (b+k) z) c=((0,(2,np (T.getD (b+k) gQ))),c):=(by rw[s,b7,TH e,r]);rw[d,TJ o];rfl
   ·rw[o,TH (by omega),UF,<-Q9 v f t];by_cases g:jy c n=true
    ·have d:b7 l a (np (T.getD z gQ)) k (jA T (b+k) z) c=((0,(3,np (T.getD (b+k) gQ))),c):=(by rw[s,b7,TH e,r];exact TJ g);rw[d,TJ g];rfl
    ·have d:b7 l a (np (T.getD z gQ)) k (jA T (b+k) z) c=b7 l a (np (T.getD z gQ)) (k+1) (jA T (b+k+1) z) (c++[n]):=(by rw[s,b7,TH e,r];exact TH g);have p:∀i∈c++[n],i<l.length:=fun i B=>by
      rcases Ut.1 B with h | h
      ·exact f i h
      ·rw[T0.1 h];exact t
     have:=C (k+1) (c++[n]) (by omega) p;rw[Uu,show b+(k+1)=b+k+1 by omega]at this;rw[d,TH g];exact this
theorem PM(j:∀x,(x.toList == [])=false->Sg T S l a A x)(i:∀q,q<T.length->((tS T q).toList == [])=false)(z:Nat)(o:z<T.length)(m:Nat) :
  ∀b c,b+m=z->mq T S A z m b (c.map (rs T S))=rh T S (dM l a (np (T.getD z gQ)) (jA T b z) c):=by
 induction m with
 | zero =>
  intro b c h;rw[Vs]at h;rw[h,wX,dM,mq,Uh];split <;> rfl
 | succ m g =>
  intro b c h;rw[yX T b z (by omega) (by omega),dM,mq];by_cases e:((tS T b).toList == [63])=true
  ·rw[TJ e,TJ e,<-g (b+1) (c++[(⟨1,0,np (T.getD b gQ)⟩:kD)]) (by omega),Uu];rfl
  ·rw[TH e,TH e];rcases j (tS T b) (i _ (by omega)) with ⟨d,f⟩ | ⟨n,d,k,f⟩
   ·rw[d,TJ f];rfl
   ·rw[d,f,TH (by omega)];simp only;rw[<-g (b+1) (c++[(⟨2,n,np (T.getD b gQ)⟩:kD)]) (by omega),Uu];rfl
theorem JH(e:∀x,(x.toList == [])=false->Sg T S l a A x)(d:∀q,q<T.length->((tS T q).toList == [])=false)(s:∀i j,i<l.length->j<l.length->aw S i=aw S j->i=j)(r:(aO l a).map (aw S)=a8 T S A)(t:∀n∈aO l a,n<l.length)(v:b<o)(k:o<T.length)(f:((tS T o).toList == [36,46])=true)(c:m.XY=jA T (b+1) o)(g:m.Yh=np (T.getD o gQ)) :
  fB T S A b o=rh T S (dB l a m):=by
 unfold fB dB;have u:ve m=((tS T (b+1)).toList == [40]):=by
  unfold ve;rw[c];by_cases h:b+1<o
  ·rw[yX T (b+1) o h (by omega)]
  ·rw[show b+1=o by omega,wX];rw[cI f];decide
 rw[u];split
 ·next h =>
  have w:b+1<o:=by
   by_cases p:b+1<o
   ·exact p
   ·rw[show b+1=o by omega,cI f]at h;exact absurd h (by decide)
  unfold jS kQ zL;rw[g,c,<-r,EL];exact Mw e d s (b+1) o k (o-(b+2)) 1 (aO l a) (by omega) t
 ·rw[g,c];exact PM e d o k _ (b+1) [] (by omega)
end
def yS(R:List St)(a:Nat)(vs:Xt)(k i j:Nat):Bool:=(List.range k).any (fun n=>tQ R a n&&(bM vs (symsAt R n)).contains i&&(bM vs (symsAt R n)).contains j)
theorem DD(a:Xv)(b:List Bool)(q:Nat)(c:q<b.length):(lj n H a b).getD q false=(b.getD q false||a.any (fun g=>H*n+g==q)):=by
 unfold lj
 induction a generalizing b with
 | nil=>simp
 | cons m a f =>
  simp only[List.foldl_cons,List.any_cons];rw[f (b.set (H*n+m) true) (by simpa using c)];by_cases e:H*n+m=q
  ·subst e;rw[TG,List.getElem?_set_self c];simp
  ·have d:(H*n+m==q)=false:=(by rw[Ui];exact e);rw[TG,List.getElem?_set_ne e,<-TG,d,U0]
theorem DC(a r:Xv)(b:List Bool)(q:Nat)(d:q<b.length):(r.foldl (fun b c=>lj H c a b) b).getD q false=(b.getD q false||r.any (fun c=>a.any (fun f=>c*H+f==q))):=by
 induction r generalizing b with
 | nil=>simp
 | cons m r e =>
  simp only[List.foldl_cons,List.any_cons];rw[e (lj H m a b) (by rw[qN];exact d),DD H m a b q d,Wk]
theorem DN{j a c:Nat}(e:c<b)(f:j<b)(h:a*b+c=o*b+j):a=o/\c=j:=by
 have d:(a*b+c) / b=a:=by rw[Nat.mul_comm,Nat.mul_add_div (by omega)];rw[Nat.div_eq_of_lt e];omega
 have g:(o*b+j) / b=o:=by rw[Nat.mul_comm,Nat.mul_add_div (by omega)];rw[Nat.div_eq_of_lt f];omega
 rw[h]at d;have:a=o:=by omega
 subst this;exact⟨rfl,by omega⟩
theorem Kf(k i j:Nat)(n:i<L.length)(e:j<L.length):(dE I N L k).getD (i*L.length+j) false=yS I N L k i j:=by
 have f:i*L.length+j<L.length*L.length:=Av n e
 induction k with
 | zero =>
  unfold yS;rw[dE,TG,U4,TJ f];rfl
 | succ k g =>
  have l:yS I N L (k+1) i j=(yS I N L k i j||(tQ I N k&&(bM L (symsAt I k)).contains i&&(bM L (symsAt I k)).contains j)):=by
   unfold yS;rw[U9,XH];simp
  rw[l,dE];cases p:tQ I N k
  ·simp only[Bool.false_eq_true,if_false,Bool.false_and,Bool.or_false];exact g
  ·simp only[if_true,Bool.true_and];unfold mA;rw[DC _ _ _ _ _ (by rw[mB];exact f),g];congr 1;rw[UY];simp only[List.any_eq_true,Bool.and_eq_true,List.contains_iff_mem,beq_iff_eq];constructor
   ·rintro ⟨q,c,r,b,m⟩;obtain⟨o,d⟩:=UL b;have a:=uk L (symsAt I k) o d.1;rw[d.2]at a;obtain⟨rfl,rfl⟩:=DN a e m;exact⟨c,b⟩
   ·rintro ⟨c,b⟩;exact⟨i,c,j,b,rfl⟩
theorem Jo(a:n<L.length)(b:H<L.length):fG L.length (go I N L) n H=(!(n==H)&&yS I N L I.length n H):=by
 unfold fG go;rw[Kf I N L I.length n H a b]
def nS(l N:List St)(a:Nat):Xt:=((List.range N.length).filter (fun j=>Bh (l++N) a (l.length+j))).flatMap (symsAt N)
end Go.Proofs.YtnbhnocdhbcbcaaGreat
