import Derived.Test.YtnbhnocdhbcbcaaGreatK12
import Derived.Test.YtnbhnocdhbcbcaaGreatK24
namespace Go.Proofs.YtnbhnocdhbcbcaaGreat
open Go.RowKit Tryz
open Value IntKind Ending
set_option maxHeartbeats 0
variable{p:List UInt8}{r:Xs}{b o:Nat}{m:St}{z0:Db}{u:Fs}{q:G7}{g:List Tk×List Bool}{z:List Tk}(k:List Tk)(x:Tk)(i:List Tk)(B:Db)(w:Fs)(y:Xs)(v:Int)(I:List St)(N:Nat)(L:Xt)(n H:Nat)(f:Xs)
theorem wW:(y++f).toList=y.toList++f.toList:=by
 rw[Uo,Uo,Uo,ByteArray.data_append,Array.toList_append]
theorem nt:(⟨#[]⟩:Xs).toList=[]:=by rw[Uo]
theorem Cc(u:UInt8):(⟨#[u]⟩:Xs).toList=[u]:=by rw[Uo]
def kz(D:List UInt8):Nat:=D.foldl (fun v c=>v*5+(c.toNat-84)) 0
theorem tx(D:List UInt8)(c:UInt8):kz (D++[c])=kz D*5+(c.toNat-84):=by
 unfold kz;rw[Vp];rfl
def digs:Nat->Nat->List UInt8
 | 0,_=>[]
 | f+1,h=>if 0<h then digs f ((h-1) / 5)++[UInt8.ofNat (85+(h-1) % 5)] else []
theorem Fx(f:Nat):∀h s,(vX f h s).toList=digs f h++s.toList:=by
 induction f with
 | zero=>intro h s;rfl
 | succ f a =>
  intro h s;rw[vX,digs];split
  ·rw[a,wW,Fz,Cc,U5]
  ·rfl
theorem G0(f:Nat):∀h,h<=f->kz (digs f h)=h:=by
 induction f with
 | zero=>intro h a;rw[show h=0 by omega];rfl
 | succ f b =>
  intro h a;rw[digs];split
  ·rw[tx,b _ (by omega),UInt8.toNat_ofNat'];omega
  ·rw[show h=0 by omega];rfl
def Je(D:List UInt8):Prop:=∀c∈D,85<=c.toNat/\c.toNat<=89
theorem xr(D:List UInt8):∀f,Je D->kz D<=f->digs f (kz D)=D:=by
 induction h:D.length generalizing D with
 | zero =>
  intro f _ _;rw[VS.1 h];cases f <;> rfl
 | succ n g =>
  intro f a b;obtain⟨E,c,rfl⟩:∃E c,D=E++[c]:=⟨D.dropLast,D.getLast (by intro e;rw[e]at h;simp at h),(V5 _).symm⟩
  have i:=a c (by simp);rw[tx]at b ⊢;cases f with
  | zero=>omega
  | succ f =>
   rw[digs,Tr (by omega),show(kz E*5+(c.toNat-84)-1) / 5=kz E by omega,g E (by simpa using h) f (fun x d=>a x (by simp[d])) (by omega)];congr 1;rw[show 85+(kz E*5+(c.toNat-84)-1) % 5=c.toNat by omega,UInt8.ofNat_toNat]
theorem G1(a:Je p):kz p=0 ↔ p=[]:=by
 constructor
 ·intro h;have:=xr p 0 a (by omega);rw[<-this];rfl
 ·rintro rfl;rfl
theorem Nu{c:UInt8}(j:r.toList=p++[c])(g:Je p)(k:65<=c.toNat/\c.toNat<=84)(i:Nat):xZ r i=true ↔ i=kz p*20+(c.toNat-65):=by
 unfold xZ mA;rw[Vb,Fx,j,Pw,Cc];constructor
 ·intro h;obtain⟨d,f⟩:=List.append_inj' h rfl;have e:=G0 (i+1) (i / 20) (by omega);rw[d]at e;have a:(UInt8.ofNat (65+i % 20)).toNat=c.toNat:=by rw[Xy f |>.1]
  rw[UInt8.toNat_ofNat']at a;omega
 ·intro h;have b:i / 20=kz p:=by omega
  have a:65+i % 20=c.toNat:=by omega
  rw[b,a,xr p _ g (by omega),UInt8.ofNat_toNat]
theorem Kp{s:Xs}{D:List UInt8}{c:UInt8}(g:s.toList=D++[c])(e:Je D)(f:65<=c.toNat/\c.toNat<=84)(a:Nat):gx s a=if kz D*20+(c.toNat-65)<a then kz D*20+(c.toNat-65)+1 else 0:=by
 unfold gx;split
 ·next i h =>
  have j:=(Nu g e f i).1 (Vh h);have d:=TG.1 (Us h);rw[j]at d ⊢;rw[Tr d]
 ·next h =>
  rw[Tp];intro b;rw[UE]at h;exact h _ (TG.2 b) ((Nu g e f _).2 rfl)
def rr(T:List Tk)(S:List Sm)(s:kD):dj :=
 if s.XU=1 then⟨-1,0,0,s.at_.XZ,s.at_.X0,s.at_.X3⟩
 else if s.XU=2 then⟨(aw S s.XA:Nat),0,gN T S (aw S s.XA:Nat),s.at_.XZ,s.at_.X0,s.at_.X3⟩
 else⟨-2,s.XA,0,s.at_.XZ,s.at_.X0,s.at_.X3⟩
def rg(T:List Tk)(S:List Sm)(q:List kD×pu):jP:=⟨q.1.map (rr T S),q.2.1,q.2.2.XZ,q.2.2.X0,q.2.2.X3⟩
def Lx(x:Nat×Pl):Lt:=⟨(x.1:Int),x.2.XZ,x.2.X0,x.2.X3⟩
def xU(x:Xs×Pl):List (Nat×Pl):=(List.range x.1.size).map (fun j=>((aI x.1 j).toNat,{ x.2 with X3:=x.2.X3+j }))
def Bl:List (Nat×Pl)->lC->pu×lC
 | [],c=>(cZ,c)
 | x :: r,c=>if((bI c x.1 x.2).1==0)=true then Bl r (bI c x.1 x.2).2 else(((bI c x.1 x.2).1,x.2),(bI c x.1 x.2).2)
theorem Pg(A B:List (Nat×Pl)):∀c,Bl (A++B) c=if((Bl A c).1.1==0)=true then Bl B (Bl A c).2 else Bl A c:=by
 induction A with
 | nil=>intro c;rw[V4,Bl,Tr (by rfl)]
 | cons x r a =>
  intro c;rw[Vy,Bl,Bl];split
  ·exact a _
  ·rfl
theorem GS(p:Pl)(k:Nat):∀a j c,j+k=f.size->k<a->ic f p a j c=Bl ((List.range' j k).map (fun j=>((aI f j).toNat,{ p with X3:=p.X3+j }))) c:=by
 induction k with
 | zero =>
  intro a j c h b;cases a with
  | zero=>omega
  | succ a=>rw[ic,Tp (by omega)];rfl
 | succ k d =>
  intro a j c h b;cases a with
  | zero=>omega
  | succ a =>
   rw[ic,Tr (by omega),List.range'_succ,Vn,Bl,d a (j+1) _ (by omega) (by omega)]
theorem OF(x:Xs×Pl)(c:lC):ma x.1 x.2 c=Bl (xU x) c:=by
 unfold ma xU;rw[GS x.1 x.2 x.1.size _ 0 c (by omega) (by omega),List.range_eq_range']
theorem AI(a:List (Xs×Pl)):∀c,pW a c=Bl (a.flatMap xU) c:=by
 induction a with
 | nil=>intro c;rfl
 | cons x r b =>
  intro c;obtain⟨t,p⟩:=x;rw[pW,Uv,Pg,OF (t,p) c,b]
structure QB(T:List Tk)(S:List Sm)(refs:Xv)(c:lC)(P:List dj)(tags:Xv)(num:Xs)(fr:Bool):Prop where
 st:P=c.steps.map (rr T S)
 tg:tags=c.XM
 rf:refs=c.XX.map (aw S)
 fr:fr=c.behind
 dg:Je num.toList
 wo:c.XG=kz num.toList∨(c.XX.length+c.XM.length<c.XG/\c.XX.length+c.XM.length<kz num.toList)
 no:c.behind=true->num.toList=[]
theorem Bc:(wH (H:Int)).toList=[UInt8.ofNat H]:=by
 unfold wH;rw[Cc,Ur]
theorem Cf(h:b<256):(UInt8.ofNat b).toNat=b:=by rw[UInt8.toNat_ofNat'];omega
section
variable {T:List Tk} {S:List Sm} {refs:Xv} {c:lC} {P:List dj} {tags:Xv} {num:Xs} {fr:Bool}
theorem QB.zero(E:QB T S refs c P tags num fr):c.XG=0 ↔ num.toList=[]:=by
 rw[<-G1 E.dg];rcases E.wo with h | ⟨a,b⟩ <;> omega
theorem QB.digit(E:QB T S refs c P tags num fr)(g:85<=b/\b<=89):QB T S refs (jL c (b-84)) P tags (num++wH (b:Int)) false:=by
 have a:Je (num++wH (b:Int)).toList:=by
  rw[wW,Bc];intro x i;rcases Ug.1 i with h | h
  ·exact E.dg x h
  ·rw[TI.1 h,Cf (by omega)];exact g
 have d:kz (num++wH (b:Int)).toList=kz num.toList*5+(b-84):=by rw[wW,Bc,tx,Cf (by omega)]
 unfold jL;split
 ·next h =>
  refine⟨E.st,E.tg,E.rf,rfl,a,?_,fun h=>by cases h⟩;rw[d];rcases E.wo with w | ⟨e,f⟩
  ·exact TH (by show c.XG*5+(b-84)=_;rw[w])
  ·omega
 ·next h =>
  refine⟨E.st,E.tg,E.rf,rfl,a,TE ?_,fun h=>by cases h⟩;rw[d];show _<c.XG/\_;have:c.XX.length+c.XM.length<kz num.toList:=by rcases E.wo with w | ⟨e,f⟩ <;> omega
  exact⟨by show c.XX.length+c.XM.length<c.XG;omega,by show c.XX.length+c.XM.length<_;omega⟩
theorem QB.numb(E:QB T S refs c P tags num fr)(d:65<=b/\b<=84)(a:Nat):gx (num++wH (b:Int)) a=if kz num.toList*20+(b-65)<a then kz num.toList*20+(b-65)+1 else 0:=by
 have:=Kp (s:=num++wH (b:Int)) (D:=num.toList) (c:=UInt8.ofNat b) (by rw[wW,Bc]) E.dg (by rw[Cf (by omega)];exact d) a;rw[Cf (by omega)]at this;exact this
end
theorem FB(S:List Sm)(s:Pl)(X:List (Nat×Pl)):∀(a:Xv) (c:lC) (P:List dj) (b:Xv) (d:Xs) (t:Bool),QB i S a c P b d t ->
  mL i S a (Lx (0,s)) (X.map Lx) P b d t=rg i S (mZ s (Bl X c)):=by
 induction X with
 | nil =>
  intro a c P b d t E;have e:mZ s (cZ,c)=(if c.XG=0 then(if c.steps.length=0 then([],(1,s)) else(c.steps,cZ)) else([],(4,s))):=rfl;rw[WT,mL,Bl,e];by_cases h:c.XG=0
  ·have g:d.toList=[]:=E.zero.1 h;rw[g,Tp (by simp),Tr h,E.st,TT];split
   ·rfl
   ·rfl
  ·have g:¬d.toList=[]:=fun e=>h (E.zero.2 e);rw[Tr (TU.2 g),Tp h];rfl
 | cons x r A =>
  intro a c P b d t E;obtain⟨n,p⟩:=x;have v:=E.st;have l:=E.tg;have q:=E.rf;have G:=E.fr;rw[Vn,mL,Bl,show(Lx (n,p)).c=(n:Int) from rfl]
  show(if 85<=(n:Int)/\(n:Int)<=89 then _ else _)=_
  by_cases u:85<=n/\n<=89
  ·have e:bI c n p=(0,jL c (n-84)):=(by unfold bI;rw[Tp (by omega),Tr u]);rw[Tr (by omega),e,Tr (by rfl)];exact A _ _ _ _ _ _ (E.digit u)
  rw[Tp (by omega)]
  show(if 65<=(n:Int)/\(n:Int)<=84 then _ else _)=_
  by_cases g:65<=n/\n<=84
  ·have y:a.length=c.XX.length:=(by rw[q,TT]);have j:c.XG*20+(n-64)-1=c.XG*20+(n-65):=(by omega);have e:bI c n p=fm c (n-64) p:=(by unfold bI;rw[Tr g]);have k:=E.numb g (a.length+b.length);rw[Tr (by omega),e]
   show(if gx (d++wH (n:Int)) (a.length+b.length)=0 then _ else _)=_
   rcases E.wo with w | ⟨L,M⟩
   ·rw[<-w]at k;by_cases C:c.XG*20+(n-65)<c.XX.length
    ·have m:fm c (n-64) p=(0,{ dP { c with XG:=0 } ⟨2,c.XX.getD (c.XG*20+(n-65)) 0,p⟩ with behind:=true }):=(by unfold fm;rw[j,Tr C]);rw[Tr (by rw[y];omega)]at k;rw[k,Tp (by omega),m,Tr (by rfl)];refine A _ _ _ _ _ _ ⟨?_,l,q,rfl,(fun x z=>by rw[nt]at z;cases z),TH (by rw[nt];rfl),fun _=>nt⟩;show _=(c.steps++[_]).map _;rw[Uh,v];congr 1;unfold pQ;rw[Tr (by omega),UM];have I:a.getD (c.XG*20+(n-65)) 0=aw S (c.XX.getD (c.XG*20+(n-65)) 0):=by
      rw[q,To,To,Ua,Tn C];rfl
     rw[I];rfl
    ·by_cases H:c.XG*20+(n-65)-c.XX.length<c.XM.length
     ·have m:fm c (n-64) p=(0,{ dP { c with XG:=0 } ⟨3,c.XM.getD (c.XG*20+(n-65)-c.XX.length) 0,p⟩ with behind:=true }):=(by unfold fm;rw[j,Tp C,Tr H]);rw[Tr (by rw[y,l];omega)]at k;rw[k,Tp (by omega),m,Tr (by rfl)];refine A _ _ _ _ _ _ ⟨?_,l,q,rfl,(fun x z=>by rw[nt]at z;cases z),TH (by rw[nt];rfl),fun _=>nt⟩;show _=(c.steps++[_]).map _;rw[Uh,v];congr 1;unfold pQ;rw[Tp (by omega),y,l,show c.XG*20+(n-65)+1-c.XX.length-1=c.XG*20+(n-65)-c.XX.length by omega];rfl
     ·have m:fm c (n-64) p=(5,{ c with XG:=0 }):=(by unfold fm;rw[j,Tp C,Tp H]);rw[Tp (by rw[y,l];omega)]at k;rw[k,Tr rfl,m,Tp (by simp)];rfl
   ·have m:fm c (n-64) p=(5,{ c with XG:=0 }):=(by unfold fm;rw[j,Tp (by omega),Tp (by omega)]);rw[Tp (by rw[y,l];omega)]at k;rw[k,Tr rfl,m,Tp (by simp)];rfl
  rw[Tp (by omega)]
  show(if(n:Int)=90/\t=true then _ else _)=_
  by_cases o:n=90/\c.behind=true
  ·have e:bI c n p=(0,{ c with XM:=c.XM++[c.steps.length-1],behind:=false }):=(by unfold bI;rw[Tp g,Tp u,Tr o]);rw[Tr ⟨by omega,by rw[G];exact o.2⟩,e,Tr (by rfl)];refine A _ _ _ _ _ _ ⟨v,?_,q,rfl,E.dg,TH ?_,fun h=>by cases h⟩
   ·rw[l,v,TT]
   ·show c.XG=_;have F:=E.no o.2;rw[E.zero.2 F,F];rfl
  rw[Tp (fun h=>o ⟨by have:=h.1;omega,by rw[<-G];exact h.2⟩)]
  show(if(n:Int)=63/\(d.toList == [])=true then _ else _)=_
  by_cases B:n=63/\c.XG=0
  ·have e:bI c n p=(0,dP c ⟨1,0,p⟩):=(by unfold bI;rw[Tp g,Tp u,Tp o,Tr B]);rw[Tr ⟨by omega,by rw[E.zero.1 B.2];rfl⟩,e,Tr (by rfl)];refine A _ _ _ _ _ _ ⟨?_,l,q,rfl,E.dg,E.wo,fun h=>by cases h⟩;show _=(c.steps++[_]).map _;rw[Uh,v];rfl
  ·have e:bI c n p=(4,c):=(by unfold bI;rw[Tp g,Tp u,Tp o,Tp B]);have J:¬((n:Int)=63/\(d.toList == [])=true):=fun h=>B ⟨by omega,E.zero.2 (by simpa using h.2)⟩;rw[Tp J,e,Tp (by simp)];rfl
def nr(t:Tk):Pl:=⟨t.XZ,t.X0,t.X3⟩
def Sz(t:Tk):Xs×Pl:=(t.s,nr t)
def jA(T:List Tk)(b z:Nat):List (Xs×Pl):=((T.drop b).take (z-b)).map Sz
theorem EG:(jA i N n).drop H=jA i (N+H) n:=by
 unfold jA;rw[<-List.map_drop,List.drop_take,List.drop_drop,show n-N-H=n-(N+H) by omega]
theorem yX(h:n<H)(a:H<=i.length):jA i n H=(tS i n,nr (i.getD n gU)) :: jA i (n+1) H:=by
 unfold jA;rw[TV (by omega),show H-n=(H-(n+1))+1 by omega,WQ,Vn];congr 1;unfold Sz tS;rw[To,Tn (by omega)];rfl
theorem wX:jA i H H=[]:=by unfold jA;rw[Uz,VR];rfl
theorem Ja(a:H<=k.length):jA (k++i) n H=jA k n H:=by
 unfold jA;by_cases h:n<=k.length
 ·rw[UC h,UW (by rw[Ux];omega)]
 ·rw[show H-n=0 by omega,VR,VR]
theorem OD(a:H<=k.length):jA (k++[x]) H (k++[x]).length=jA k H k.length++[Sz x]:=by
 unfold jA;rw[UC a,Vf (by simp;omega),Vf (by rw[Ux];exact Tq _),Uh];rfl
structure sB(T:List Tk)(d:Db):Prop where
 ne:∀q,q<T.length->((tS T q).toList == [])=false
 til:∀(n:Nat) (s:St),d.XQ[n]?=some s->oB s.XU=true->s.til=0
 pr:∀(n:Nat) (s:St),d.XQ[n]?=some s->s.XU=5->s.XK=jA T ((aq (aa T) (aw (aa T) n)).h+(bB T (aq (aa T) (aw (aa T) n)).h).length+1) ((aq (aa T) (aw (aa T) n)).z-1)/\s.XY=nr (T.getD ((aq (aa T) (aw (aa T) n)).z-1) gU)
 op:d.XK=if d.XD=true then jA T ((eu T (fB T)).2+d.Xz.length+1) T.length else []
section
variable {T:List Tk} {t:Tk} {d d':Db}
theorem Sr(B:Xt)(h:aK B ⟨#[36,61]⟩=true):(B.takeWhile jz).length<B.length:=by
 induction B with
 | nil=>cases h
 | cons x r c =>
  cases e:jz x
  ·rw[Vt (by rw[e];simp)];simp
  ·rw[Vc e];have b:aK r ⟨#[36,61]⟩=true:=by
    unfold aK at h ⊢;rw[VP,Ul]at h;rcases h with h | h
    ·exfalso
     have a:x.toList=(⟨#[36,61]⟩:Xs).toList:=(by simpa using h);unfold jz at e;rw[a]at e;exact absurd e (by decide +kernel)
    ·exact h
   have:=c b;simp only[List.length_cons];omega
theorem sB.old(Q:sB T d)(R:gB T d){M:List Sm}{a:St}(f:d.XQ[b]?=some m)(e:aw (aa T++M) b=aw (aa T) b)(g:a.XU=m.XU)(i:a.XK=m.XK)(j:a.XY=m.XY)(l:a.XU=5) :
  a.XK=jA (T++[t]) ((aq (aa T++M) (aw (aa T++M) b)).h+(bB (T++[t]) (aq (aa T++M) (aw (aa T++M) b)).h).length+1) ((aq (aa T++M) (aw (aa T++M) b)).z-1)/\a.XY=nr ((T++[t]).getD ((aq (aa T++M) (aw (aa T++M) b)).z-1) gU):=by
 have o:=(TA.1 f).1;have c:=R.hel.at_ o;obtain⟨p,q⟩:=Q.pr b m f (by rw[<-g];exact l);obtain⟨-,-,-,k⟩:=R.ct b m f;obtain⟨P,r⟩:=(dO T).s _ c;have n:=P.lt;rw[e,jJ _ _ _ c,i,j,qy T [t] _ k,Ja T [t] _ _ (by omega),p,q];refine⟨rfl,?_⟩;rw[To,To,TQ (by omega)]
theorem sB.nes(Q:sB T d)(b:(t.s.toList == [])=false):∀q,q<(T++[t]).length->((tS (T++[t]) q).toList == [])=false:=fun q a=>by
 by_cases h:q<T.length
 ·rw[fY T [t] q h];exact Q.ne q h
 ·rw[Tv,V8]at a;rw[show q=T.length by omega,om];exact b
theorem sB.XE(Q:sB T d)(R:gB T d)(j:(t.s.toList == [])=false)(g:ce t.s=false)(c:d'.XQ=d.XQ)(b:d'.XK=if d'.XD=true then jA (T++[t]) ((eu (T++[t]) (fB T)).2+d'.Xz.length+1) (T++[t]).length else []):sB (T++[t]) d':=by
 obtain⟨e,f⟩:=lX (T:=T) (t:=t) g;refine⟨Q.nes j,fun n s a=>?_,fun n s a i=>?_,by rw[f];exact b⟩
 ·rw[c]at a;exact Q.til n s a
 ·rw[c]at a;have:=Q.old (t:=t) R (M:=[]) a (by rw[TY]) rfl rfl rfl i;rw[TY]at this;rw[e];exact this
theorem sB.other(Q:sB T d)(R:gB T d)(q:(t.s.toList == [])=false)(j:Sm)(o:aa (T++[t])=aa T++[j])(b:∀(n:Nat) (c:St),d'.XQ[n]?=some c->∃s,d.XQ[n]?=some s/\c.XU=s.XU/\c.XK=s.XK/\c.XY=s.XY/\(oB s.XU=true->c.til=s.til))(a:d'.XK=[]/\d'.XD=false):sB (T++[t]) d':=by
 refine⟨Q.nes q,fun n s i g=>?_,fun n s i p=>?_,by rw[a.1,a.2];rfl⟩
 ·obtain⟨u,e,f,-,-,m⟩:=b n s i;rw[f]at g;rw[m g];exact Q.til n u e g
 ·obtain⟨u,e,f,k,l,-⟩:=b n s i;rw[o];exact Q.old R e (R.hel.ix j (TA.1 e).1) f k l p
theorem sB.first(Q:sB T d)(R:gB T d)(f:(t.s.toList == [])=false)(x:fB T=T.length)(b:d.XD=false)(a:(ay d t.s).1=0):sB (T++[t]) (ay d t.s).2:=by
 have r:d.XK=[]:=by rw[Q.op,b];rfl
 have i:d.XK=if d.XD=true then jA (T++[t]) ((eu (T++[t]) (fB T)).2+d.Xz.length+1) (T++[t]).length else []:=by rw[r,b];rfl
 have e:∀(n:Nat) (c:St),d.XQ[n]?=some c->∃s,d.XQ[n]?=some s/\c.XU=s.XU/\c.XK=s.XK/\c.XY=s.XY/\(oB s.XU=true->c.til=s.til):=fun n c h=>⟨c,h,rfl,rfl,rfl,fun _=>rfl⟩
 unfold ay at *;by_cases k:(t.s.toList == [36,123])=true
 ·rw[Tr k];obtain⟨j,-⟩:=nB (T:=T) (t:=t) x (by rw[(jW (du k)).2.2];decide);exact Q.other R f _ j e ⟨r,b⟩
 rw[Tp k]at a ⊢;by_cases l:(t.s.toList == [36,125])=true
 ·rw[Tr l]at a ⊢;cases A:d.XW.getLast? with
  | none=>rw[A]at a;cases a
  | some q =>
   simp only;obtain⟨j,-⟩:=nB (T:=T) (t:=t) x (by rw[(jW (du l)).2.2];decide);refine Q.other R f _ j (fun n c g=>?_) (by unfold cU dx;split <;> exact⟨r,b⟩);unfold cU dx at g;split at g
   ·exact e n c g
   ·obtain⟨v,B,C⟩:=oR g;refine⟨v,B,?_⟩;rw[C];split
    ·unfold lK;split
     ·next h=>exact⟨rfl,rfl,rfl,fun w=>by rw[h.2]at w;cases w⟩
     ·exact⟨rfl,rfl,rfl,fun _=>rfl⟩
    ·exact⟨rfl,rfl,rfl,fun _=>rfl⟩
 rw[Tp l]at a ⊢;by_cases m:(t.s.toList == [36,99])=true
 ·rw[Tr m]at a ⊢;by_cases y:0<d.XW.length
  ·rw[Tr y]at a;cases a
  ·rw[Tp y];exact Q.XE R f (fP m (by decide)) rfl i
 rw[Tp m]at a ⊢;by_cases o:(t.s.toList == [36,118])=true
 ·rw[Tr o];exact Q.XE R f (fP o (by decide)) rfl i
 rw[Tp o]at a ⊢;by_cases p:(t.s.toList == [36,100])=true
 ·rw[Tr p];exact Q.XE R f (fP p (by decide)) rfl i
 rw[Tp p]at a ⊢;split at a
 ·cases a
 ·next z =>
  rw[Tp z];unfold bV at *;cases u:dD t.s
  ·rw[u,Tp (by simp)]at a;split at a
   ·cases a
   ·next D =>
    split at a
    ·cases a
    ·next E =>
     rw[Tp (by simp),Tp D,Tp E];exact Q.XE R f (ru u) rfl i
  ·rw[u,Tr rfl]at a;cases a
theorem sB.key(Q:sB T d)(R:gB T d)(c:(t.s.toList == [])=false)(b:d.XD=false)(a:(aJ d t.s).1=0):sB (T++[t]) (aJ d t.s).2:=by
 have k:d.XK=[]:=by rw[Q.op,b];rfl
 have e:d.XK=if d.XD=true then jA (T++[t]) ((eu (T++[t]) (fB T)).2+d.Xz.length+1) (T++[t]).length else []:=by rw[k,b];rfl
 unfold aJ at *;split
 ·next h=>exact Q.XE R c (fP h (by decide)) rfl e
 ·next f =>
  rw[Tp f]at a;split
  ·next h=>exact Q.XE R c (fP h (by decide)) rfl e
  ·next g =>
   rw[Tp g]at a;split
   ·next h=>exact Q.XE R c (fP h (by decide)) rfl e
   ·next i =>
    rw[Tp i]at a;split
    ·next h=>exact Q.XE R c (fP h (by decide)) rfl e
    ·next j=>rw[Tp j]at a;cases a
theorem sB.body(Q:sB T d)(R:gB T d)(x:(t.s.toList == [])=false){B:Xt}(I:eu T (fB T)=(r,b))(w:fB T<b)(G:b<=T.length)(C:fn r.toList d.XU)(N:eG T b T.length=B)(p:d.XD=aK B ⟨#[36,61]⟩)(m:d.Xz=B.takeWhile jz)(c:(aZ d t.s (nr t)).1=0):sB (T++[t]) (aZ d t.s (nr t)).2:=by
 have v:(eu (T++[t]) (fB T)).2=b:=by rw[oX I w G C]
 have f:=Q.op;rw[I]at f;simp only at f;have E:B.length=T.length-b:=by rw[<-N,mb,TT,Ux]
 have F:d.XD=true->b+d.Xz.length+1<=T.length:=fun h=>by
  have:=Sr B (by rw[<-p];exact h);rw[<-m]at this;omega
 rw[pj C]at *;by_cases z:(t.s.toList == [36,46])=true
 ·rw[Tr z]at *;obtain⟨U,-⟩:=By z;obtain⟨y,-⟩:=nV T t;rw[Tr U,oX I w G C]at y;simp only at y;have l:bB (T++[t]) b=d.Xz:=by
   unfold bB;rw[UC G,tJ _ t (fun u V=>?_) z,m,<-N,mb];have:=vp T b (by omega) u V;unfold ce at this;simp only[Bool.or_eq_false_iff]at this;exact this.1.1
  unfold mu at *;split at c
  ·cases c
  ·next P =>
   rw[Tp P];split at c
   ·cases c
   ·next k =>
    rw[Tp k];simp only;cases a:((d.XU==7)||(d.XU==8))
    ·simp only[Bool.or_eq_false_iff]at a;have D:(aX d (nr t)).XQ=d.XQ++[⟨d.XU,d.XV,d.Xz,d.XK,nr t,0⟩]:=by
      unfold aX nG nX;rw[a.1,a.2];simp only[Bool.false_eq_true,if_false];split <;> rfl
     have L:kF (aa T++[(⟨fB T,T.length+1,b,r⟩:Sm)]) (aa T).length=true:=(by rw[t8];show _=true;rw[Do C,a.1,a.2];rfl);have M:∀{n:Nat} {s:St},(aX d (nr t)).XQ[n]?=some s->d.XQ[n]?=some s∨(n=d.XQ.length/\s=⟨d.XU,d.XV,d.Xz,d.XK,nr t,0⟩):=fun {n s} i=>by
      rw[D]at i;by_cases J:n<d.XQ.length
      ·rw[TQ J]at i;exact TH i
      ·have e:n=d.XQ.length:=by
        have:=(TA.1 i).1;rw[Tv,V8]at this;omega
       subst e;rw[TJ (Tq _),Uz]at i;exact TE ⟨rfl,(UQ i).symm⟩
     refine⟨Q.nes x,fun n s i S=>?_,fun n s i j=>?_,rfl⟩
     ·rcases M i with h | ⟨-,h⟩
      ·exact Q.til n s h S
      ·rw[h]
     ·rw[y];rcases M i with h | ⟨J,h⟩
      ·exact Q.old R h (R.hel.ix _ (TA.1 h).1) rfl rfl rfl j
      ·subst J;have O:aw (aa T++[(⟨fB T,T.length+1,b,r⟩:Sm)]) d.XQ.length=(aa T).length:=by
        unfold aw;rw[nC,Tr L,R.hel.len,To,TJ (Tq _),Uz];rfl
       rw[O,lx];simp only;rw[h]at j ⊢;simp only at j ⊢;have H:d.XD=true:=by
        cases e:d.XD
        ·exact absurd ⟨by rw[j];rfl,e⟩ k
        ·rfl
       rw[l,UM,Ja T [t] _ _ (Tq _),f,H,Tr rfl];refine⟨rfl,?_⟩;rw[To,TJ (Tq _),Uz];rfl
    ·have D:(aX d (nr t)).XQ=d.XQ:=by
      unfold aX eF;rw[Ul]at a;split
      ·rfl
      ·next q=>rw[Tr (a.resolve_left q)]
     exact Q.other R x _ y (fun n W h=>⟨W,by rw[<-D];exact h,rfl,rfl,rfl,fun _=>rfl⟩) ⟨rfl,rfl⟩
 ·rw[Tp z]at *;by_cases o:(t.s.toList == [36,61])=true/\(d.XU==5)=true/\d.XD=false
  ·rw[Tr o]at *;unfold cw at *;split at c
   ·cases c
   ·next g =>
    rw[Tp g];refine Q.XE R x (fP o.1 (by decide)) rfl ?_;show d.XK=if true=true then _ else _;rw[Tr rfl,f,o.2.2,Tp (by simp),v];have K:aK B ⟨#[36,61]⟩=false:=by rw[<-p];exact o.2.2
    have:d.Xz.length=T.length-b:=(by rw[m,tZ B K,E]);show _=jA (T++[t]) (b+d.Xz.length+1) (T++[t]).length;rw[this,Tv,V8,show b+(T.length-b)+1=T.length+1 by omega,wX]
  ·rw[Tp o]at *;cases A:dD t.s
   ·rw[A,Tp (by simp)]at c;rw[Tp (by simp)];split at c
    ·next g =>
     rw[Tr g];refine Q.XE R x (ru A) rfl ?_;show d.XK++[(t.s,nr t)]=if d.XD=true then _ else _;rw[f,Tr g,Tr g,v];exact(OD T t _ (F g)).symm
    ·next g =>
     rw[Tp g];split at c
     ·next k =>
      rw[Tr k];refine Q.XE R x (ru A) rfl ?_;show d.XK=if d.XD=true then _ else _;rw[f,Tp g,Tp g]
     ·next k=>simp only at c;rw[c]at k;exact absurd rfl k
   ·rw[A,Tr rfl]at c;cases c
theorem sB.step(Q:sB T d)(m:uL T d)(R:gB T d)(i:(t.s.toList == [])=false)(c:(aZ d t.s (nr t)).1=0):sB (T++[t]) (aZ d t.s (nr t)).2:=by
 rcases m with ⟨k,f,b,a,l⟩ | ⟨k,f,b,a,l,r,q⟩ | ⟨v,j,B,f,g,p,o,n,a,b,u,l,w⟩
 ·have e:aZ d t.s (nr t)=ay d t.s:=by unfold aZ;rw[f];rfl
  rw[e]at c ⊢;exact Q.first R i k a c
 ·have e:aZ d t.s (nr t)=aJ d t.s:=by unfold aZ;rw[f];rfl
  rw[e]at c ⊢;exact Q.key R i a c
 ·exact Q.body R i f g p o n a b c
end
theorem Rr(h:z0=⟨[],[],[],[],[],[],[],[],0,⟨#[]⟩,[],false,[]⟩):sB [] z0:=by
 subst h;exact⟨fun q a=>(by simp at a),(fun n s h=>by cases h),(fun n s h=>by cases h),rfl⟩
section
variable {T:List Tk} {t:Tk} {d:Db}
structure rM(T:List Tk)(d:Db):Prop where
 e:tA T (aa T) d
 o:uL T d
 u:∀j,j<T.length->aY T (aa T) j=0
 b:jZ T=(d.XW.length:Int)
 r:gB T d
 f:rW d
 p:sB T d
theorem CV(T:List Tk)(t:Tk):jZ (T++[t])=aR (jZ T) t.s:=by
 unfold jZ;rw[Vp];rfl
theorem rM.step(I:rM T d)(m:T.length<=100000)(F:(t.s.toList == [])=false)(p:Pl)(J:p=nr t):aY (T++[t]) (aa (T++[t])) T.length=(aZ d t.s p).1/\((aZ d t.s p).1=0->rM (T++[t]) (aZ d t.s p).2):=by
 obtain⟨z,q⟩:=BE T m I.u;have v:=CJ T t m I.u;have g:aY (T++[t]) (aa (T++[t])) T.length=(aZ d t.s p).1/\((aZ d t.s p).1=0->tA (T++[t]) (aa (T++[t])) (aZ d t.s p).2/\uL (T++[t]) (aZ d t.s p).2):=by
  rcases I.o with ⟨n,i,c,a,k⟩ | ⟨n,i,c,a,k,x,w⟩ | ⟨g,D,B,i,l,E,C,A,a,c,y,k,G⟩
  ·have e:aZ d t.s p=ay d t.s:=(by unfold aZ;rw[i];rfl);rw[v,Tr n.symm,e];exact Gx z q I.e n i c a k F
  ·have e:aZ d t.s p=aJ d t.s:=(by unfold aZ;rw[i];rfl);obtain⟨M,N⟩:=N9 (t:=t) z q I.e n c a k x w;rw[v,Tp (by omega),M,Tr (by simp),e];exact N
  ·rw[v,Tp (by omega),oX i l E C,Tp (by simp only;omega)];simp only;rw[A];exact Lm z q I.e i l E C A a c y k G p
 refine⟨g.1,fun h=>?_⟩;obtain⟨K,L⟩:=g.2 h;refine⟨K,L,fun j H=>?_,?_,gB.step I.o I.e I.u I.r m p h,rW.step I.o I.e I.r I.f p h,by rw[J]at h ⊢;exact I.p.step I.o I.r F h⟩
 ·rw[Tv,Uj,Uq]at H;by_cases e:j<T.length
  ·exact sI T [t] m I.u j e
  ·have e:j=T.length:=(by omega);rw[e,g.1];exact h
 ·rw[CV,I.b,Ep I.o t.s p h]
theorem IB(T:List Tk)(h:0<T.length):∃u,T.getLast?=some u/\u.s=tS T (T.length-1):=by
 rw[Vu,Tn (by omega)];refine⟨_,rfl,?_⟩;unfold tS;rw[To,Tn (by omega)];rfl
theorem rM.open(I:rM T d):lM d=!dH T:=by
 have p:=dO T;have t:=I.b;have a:fB T<T.length->dH T=false:=fun h=>by
  obtain⟨u,i,j⟩:=IB T (by omega);have:=p.n (T.length-1) (by unfold fB at h;omega) (by omega);unfold dH;rw[i];simp only;rw[j,this];rfl
 unfold lM;rcases I.o with ⟨D,g,f,c,x⟩ | ⟨D,g,f,c,x,H,G⟩ | ⟨r,w,B,g,E,M,m,L,c,f,J,x,K⟩
 ·rw[g];have y:(bne (0:Int) 0)=false:=rfl;rw[y,UN];by_cases C:T.length=0
  ·have e:T=[]:=Uf C;rw[e]at t ⊢;have:d.XW.length=0:=by
    have h:jZ []=0:=rfl;omega
   rw[this];rfl
  ·obtain⟨u,i,j⟩:=IB T (by omega);have F:0<(aa T).length:=by
    rcases Nat.eq_zero_or_pos (aa T).length with h | h
    ·have:=FS T;rw[h]at this;unfold ld at this;rw[Tp (by omega)]at this;omega
    ·exact h
   have q:(aq (aa T) ((aa T).length-1)).z=T.length:=by
    have:=FS T;unfold ld at this;rw[Tr F]at this;omega
   have v:=(p.s ((aa T).length-1) (by omega)).1.e;rw[q]at v;unfold dH;rw[i];simp only;rw[j,v,U6,t];by_cases q:d.XW.length=0
   ·rw[q];rfl
   ·have A:((d.XW.length:Int)==0)=false:=Xo (by omega);rw[A,UR (show 0<d.XW.length by omega)];rfl
 ·rw[g,a (by omega)];rfl
 ·rw[a (by omega)];have:(d.XU != 0)=true:=by
   generalize d.XU=k at m ⊢;generalize r.toList=l at m
   (rcases m with ⟨rfl,rfl⟩ | ⟨rfl,rfl⟩ | ⟨rfl,rfl⟩ | ⟨rfl,rfl⟩ | ⟨rfl,rfl⟩ | ⟨rfl,rfl⟩ | ⟨rfl,rfl⟩) <;> rfl
  rw[this];rfl
theorem MX{d:Db}(h:d=⟨[],[],[],[],[],[],[],[],0,⟨#[]⟩,[],false,[]⟩):rM [] d:=by
 subst h;refine⟨⟨rfl,fun x=>rfl,⟨rfl,rfl,fun i a=>(by simp at a)⟩,⟨rfl,rfl,fun i a=>(by simp at a)⟩⟩,uL.none rfl rfl rfl rfl rfl,fun j b=>(by simp at b),rfl,⟨ou.nil,(fun n s h=>by cases h),rfl⟩,⟨(fun n s h=>by cases h),(fun n m s u h=>by cases h),fun h=>by cases h⟩,Rr rfl⟩
end
section
variable (rec:Nat->List Bool->List Tk->List Tk×List Bool) (fs:Fs)
theorem IN(t:Tk)(r:List Tk)(b:List Bool)(a:List Tk)(h:((t.X6==0)&&(t.s.toList == []))=true):da rec fs (t :: r) b a=((if dH a=true then a else a++[rZ t 7]),b):=by
 rw[da.eq_def];exact Tr h
theorem ym(t:Tk)(r:List Tk)(b:List Bool)(a:List Tk)(h:((t.X6==0)&&(t.s.toList == []))=false)(c:(t.s.toList == [36,91])=false):da rec fs (t :: r) b a=da rec fs r b (a++[t]):=by
 rw[da.eq_def];simp only;rw[Tp (by rw[h];simp),Tr c]
theorem NM(t:Tk)(r:List Tk)(b:List Bool)(a:List Tk)(h:((t.X6==0)&&(t.s.toList == []))=false)(c:(t.s.toList == [36,91])=true)(d:dH a=false):da rec fs (t :: r) b a=(a++[rZ t 4],b):=by
 rw[da.eq_def];simp only;rw[Tp (by rw[h];simp),Tp (by rw[c];simp),Tr d]
theorem Tm(t a:Tk)(c:List Bool)(b:List Tk)(h:((t.X6==0)&&(t.s.toList == []))=false)(d:(t.s.toList == [36,91])=true)(e:dH b=true):da rec fs [t,a] c b=(b++[rZ a (dK fs a.s a.X6)],c):=by
 rw[da.eq_def];simp only;rw[Tp (by rw[h];simp),Tp (by rw[d];simp),Tp (by rw[e];simp)]
theorem IP(t a b:Tk)(r:List Tk)(d:List Bool)(c:List Tk)(h:((t.X6==0)&&(t.s.toList == []))=false)(e:(t.s.toList == [36,91])=true)(f:dH c=true):da rec fs (t :: a :: b :: r) d c =
  if(dK fs a.s a.X6==0)=false then(c++[rZ a (dK fs a.s a.X6)],d)
  else if(eC b.s b.X6==0)=false then(c++[rZ b (eC b.s b.X6)],d)
  else if d.getD (bU fs a.s).toNat true=true then da rec fs r d c
  else if fk (rec (bU fs a.s).toNat d c).1=true then rec (bU fs a.s).toNat d c
  else da rec fs r (rec (bU fs a.s).toNat d c).2 (rec (bU fs a.s).toNat d c).1:=by
 rw[da.eq_def];simp only;rw[Tp (by rw[h];simp),Tp (by rw[e];simp),Tp (by rw[f];simp)]
theorem BK(g:∀j d c,∃V,(rec j d c).1=c++V)(n:Nat):∀L,L.length<=n->∀d c,∃V,(da rec fs L d c).1=c++V:=by
 induction n with
 | zero =>
  intro L f d c;have:L=[]:=Uf (by omega);subst this;exact⟨[],by rw[da.eq_def];simp⟩
 | succ n m =>
  intro L f d c;cases L with
  | nil=>exact⟨[],by rw[da.eq_def];simp⟩
  | cons t r =>
   simp only[List.length_cons]at f;cases h:((t.X6==0)&&(t.s.toList == []))
   ·cases e:(t.s.toList == [36,91])
    ·rw[ym rec fs t r d c h e];obtain⟨V,k⟩:=m r (by omega) d (c++[t]);exact⟨t :: V,by rw[k];simp⟩
    ·cases i:dH c
     ·rw[NM rec fs t r d c h e i];exact⟨_,rfl⟩
     ·match r,f with
      | [],_ =>
       refine⟨[],?_⟩;rw[da.eq_def];simp only;rw[Tp (by rw[h];simp),Tp (by rw[e];simp),Tp (by rw[i];simp)];simp
      | [a],_=>rw[Tm rec fs t a d c h e i];exact⟨_,rfl⟩
      | a :: b :: r',f =>
       simp only[List.length_cons]at f;rw[IP rec fs t a b r' d c h e i];split
       ·exact⟨_,rfl⟩
       ·split
        ·exact⟨_,rfl⟩
        ·split
         ·exact m r' (by omega) d c
         ·obtain⟨V,k⟩:=g (bU fs a.s).toNat d c;split
          ·exact⟨V,k⟩
          ·obtain⟨o,l⟩:=m r' (by omega) (rec (bU fs a.s).toNat d c).2 (rec (bU fs a.s).toNat d c).1;exact⟨V++o,by rw[l,k];simp⟩
   ·rw[IN rec fs t r d c h];simp only;split
    ·exact⟨[],by simp⟩
    ·exact⟨_,rfl⟩
end
theorem vt(n:Nat):∀j b a,∃V,(eU w n j b a).1=a++V:=by
 induction n with
 | zero=>intro j b a;exact⟨[],by simp[eU]⟩
 | succ n c=>intro j b a;rw[eU];exact BK (eU w n) w c _ _ (Tq _) _ _
def Jc(L:List Tk):Prop:=∀t∈L,t.X6=0
structure QO(fs:Fs)(bg sn:List Bool):Prop where
 b:bg.length=4
 s:sn.length=fs.length
 e:∀j,j<fs.length->bg.getD j true=sn.getD j true
theorem QO.set{a c:List Bool}(h:QO u a c)(d:u.length<=4)(k:Nat)(g:k<u.length):QO u (a.set k true) (c.set k true):=by
 refine⟨by rw[Um];exact h.b,by rw[Um];exact h.s,fun j f=>?_⟩;have:=h.b;have:=h.s;rw[To,To,UA,UA];by_cases e:k=j
 ·rw[Tr e,Tr e,Tr (by omega),Tr (by omega)]
 ·rw[Tp e,Tp e];have:=h.e j f;rw[To,To]at this;exact this
def rN(fs:Fs)(N:Nat)(res:G7)(R:List Tk×List Bool):Prop :=
 (res.1=cZ/\rM R.1 res.2.2/\Jc R.1/\QO fs res.2.1 R.2/\R.1.length+1025*aV R.2<=N) ∨
 (∃(W:List Tk) (u:Tk) (d:Db),R.1=W++[u]/\(u.X6==0)=false/\rM W d/\Jc W/\res.1=(u.X6,nr u)) ∨
 ∃(W:List Tk) (t:Tk) (V:List Tk) (d:Db) (r:Int),R.1=W++t :: V/\t.X6=0/\rM W d/\W.length+1<=N/\aY (W++[t]) (aa (W++[t])) W.length=r/\(r==0)=false/\res.1=(r,nr t)
theorem rN.good(a:q.1=cZ)(c:rM g.1 q.2.2)(d:Jc g.1)(e:QO u q.2.1 g.2)(f:g.1.length+1025*aV g.2<=b):rN u b q g:=TH ⟨a,c,d,e,f⟩
theorem rN.ends(a:g.1=k++[x])(c:(x.X6==0)=false)(d:rM k B)(e:Jc k)(f:q.1=(x.X6,nr x)):rN u b q g:=TE (TH ⟨k,x,B,a,c,d,e,f⟩)
theorem rN.X6(a:g.1=k++x :: i)(c:x.X6=0)(d:rM k B)(e:k.length+1<=b)(f:aY (k++[x]) (aa (k++[x])) k.length=v)(j:(v==0)=false)(l:q.1=(v,nr x)):rN u b q g:=TE (TE ⟨k,x,i,B,v,a,c,d,e,f,j,l⟩)
theorem zE(h:Jc z):fk z=false:=by
 unfold fk;cases e:z.getLast? with
 | none=>rfl
 | some t =>
  have:=h t (List.mem_of_getLast? e);simp[this]
theorem vn(k:Nat)(b:k<=f.size):(aM (aC f k).1=true->((aC f k).1.text.toList == [])=false/\(aC f k).1.X6=0)/\(aM (aC f k).1=false->(aC f k).1.text=⟨#[]⟩/\((aC f k).1.XY=true->(aC f k).1.X6=0)):=by
 have e:∀a k,k<=f.size->aM (cm f a k).1=false->(cm f a k).1.text=⟨#[]⟩/\((cm f a k).1.XY=true->(cm f a k).1.X6=0):=by
  intro a
  induction a with
  | zero=>intro k _ _;exact⟨rfl,fun h=>by cases h⟩
  | succ a i =>
   intro k b h;have d:=il f k b;rw[cm]at h ⊢;split
   ·next g =>
    rw[Tr g]at h;split
    ·exact⟨rfl,fun h=>by cases h⟩
    ·next c =>
     rw[Tp c]at h;exact i _ d.2.1 h
   ·next g =>
    rw[Tp g]at h;split
    ·exact⟨rfl,fun h=>by cases h⟩
    ·next c =>
     rw[Tp c]at h;exact(uA f k b).2 h
 unfold aC
 suffices hs:∀a k,k<=f.size->(aM (dZ f a k).1=true->((dZ f a k).1.text.toList == [])=false/\(dZ f a k).1.X6=0)/\(aM (dZ f a k).1=false->(dZ f a k).1.text=⟨#[]⟩/\((dZ f a k).1.XY=true->(dZ f a k).1.X6=0)) from hs _ _ b
 clear b k;intro a
 induction a with
 | zero=>intro k b;exact⟨fun h=>by simp[dZ,aM]at h,fun _=>⟨rfl,fun _=>rfl⟩⟩
 | succ a i =>
  intro k b;have d:=il f k b;have j:=jF f (bQ f k).2 d.2.1;rw[dZ];split
  ·split
   ·exact i _ j.2
   ·next c =>
    refine⟨fun h=>absurd h c,fun h=>?_⟩;exact e _ _ d.2.1 h
  ·exact uA f k b
theorem Kg(h:(v==0)=false):dK w y v=v:=by unfold dK;exact Tr h
theorem Kh(h:v=0)(a:y=⟨#[]⟩):dK w y v=7:=by
 subst h a;unfold dK;rw[Tp (by simp),Tr pL]
theorem FJ(h:v=0)(a:(y.toList == [])=false):dK w y v=if dD y=true then 5 else if bU w y<0 then 6 else 0:=by
 subst h;unfold dK;rw[Tp (by simp),Tp (by rw[a];simp),iQ]
theorem E6(h:(v==0)=false):eC y v=v:=by unfold eC;exact Tr h
theorem E7(h:v=0)(a:y=⟨#[]⟩):eC y v=7:=by
 subst h a;unfold eC;rw[Tp (by simp),Tr pL]
theorem CN(h:v=0)(a:(y.toList == [])=false):eC y v=if(y.toList == [36,93])=false then 5 else 0:=by
 subst h;unfold eC;rw[Tp (by simp),Tp (by rw[a];simp)]
theorem NS(ax:w.length<=4)(aT:∀j,j<w.length->(ak w j).size<=1024)(f:Nat):∀n x k c y d b N,x<w.length->k<=(ak w x).size->QO w c y->aV y<=n ->
  ((ak w x).size-k+1)+1025*aV y<=f->rM b d->Jc b->b.length+((ak w x).size-k+1)+1025*aV y<=N->N<=100000 ->
  rN w N (bH w f x k c d) (da (eU w n) w (mN (aG w x) (ak w x) k) y b):=by
 induction f with
 | zero=>intro n x k c y d b N _ _ _ _ h;omega
 | succ f ih =>
  intro n x k c y d b N hx hk hS hn hf K T hN U;have hl:=gq (ak w x) k hk;obtain⟨t1,t2⟩:=vn (ak w x) k hk;have C:=K.open;cases D:aM (aC (ak w x) k).1
  ·-- the XZ ends,or a word's stead is taken
   obtain⟨x1,x2⟩:=t2 D;rw[kJ _ _ k D];cases F:(aC (ak w x) k).1.XY
   ·have hr:((aC (ak w x) k).1.X6==0)=false:=kU D F;have P:((mg (aG w x) (ak w x) (aC (ak w x) k).1).X6==0&&((mg (aG w x) (ak w x) (aC (ak w x) k).1).s.toList == []))=false:=(by simp only[mg];rw[hr];rfl);have e2:((mg (aG w x) (ak w x) (aC (ak w x) k).1).s.toList == [36,91])=false:=(by simp only[mg];rw[x1];decide +kernel);rw[ym _ _ _ _ _ _ P e2,xJ w f x k c d D (by rw[F];simp)];refine rN.ends b _ d (by rw[da.eq_def]) hr K T ?_;simp[jx,F,mg,nr,lq]
   ·have P:((mg (aG w x) (ak w x) (aC (ak w x) k).1).X6==0&&((mg (aG w x) (ak w x) (aC (ak w x) k).1).s.toList == []))=true:=(by simp only[mg];rw[x1,x2 F,pL];rfl);rw[IN _ _ _ _ _ _ P];cases Q:dH b
    ·rw[Q]at C;rw[xJ w f x k c d D (by rw[C];simp)];refine rN.ends b (rZ (mg (aG w x) (ak w x) (aC (ak w x) k).1) 7) d (by simp) rfl K T ?_;simp[jx,F,mg,nr,lq,rZ]
    ·rw[Q]at C;rw[Bm w f x k c d D F C];exact rN.good rfl (by simp only[if_true];exact K) (by simp only[if_true];exact T) hS (by simp only[if_true];omega)
  ·have az:=hl.2.2 D;obtain⟨x1,x2⟩:=t1 D;rw[kK _ _ k hk D];have P:((mg (aG w x) (ak w x) (aC (ak w x) k).1).X6==0&&((mg (aG w x) (ak w x) (aC (ak w x) k).1).s.toList == []))=false:=(by simp only[mg];rw[x1];simp);cases hi:((aC (ak w x) k).1.text.toList == [36,91])
   ·-- a word is taken
    rw[ym _ _ _ _ _ _ P (by exact hi)];have J:ia w f x k c d=((if((aZ d (aC (ak w x) k).1.text (lq (aG w x) (ak w x) (aC (ak w x) k).1.pos)).1==0)=true then cZ else((aZ d (aC (ak w x) k).1.text (lq (aG w x) (ak w x) (aC (ak w x) k).1.pos)).1,lq (aG w x) (ak w x) (aC (ak w x) k).1.pos),c,(aZ d (aC (ak w x) k).1.text (lq (aG w x) (ak w x) (aC (ak w x) k).1.pos)).2),(aC (ak w x) k).2):=by
     unfold ia kt;rw[hi];simp
    obtain⟨g1,g2⟩:=K.step (t:=mg (aG w x) (ak w x) (aC (ak w x) k).1) (by omega) x1 (lq (aG w x) (ak w x) (aC (ak w x) k).1.pos) rfl;have e3:(mg (aG w x) (ak w x) (aC (ak w x) k).1).s=(aC (ak w x) k).1.text:=rfl;rw[e3]at g1 g2;cases h2:((aZ d (aC (ak w x) k).1.text (lq (aG w x) (ak w x) (aC (ak w x) k).1.pos)).1==0)
    ·rw[pD w f x k c d D (by rw[J,h2];simpa using h2),J,h2];obtain⟨V,hV⟩:=BK (eU w n) w (vt w n) _ _ (Tq _) y (b++[mg (aG w x) (ak w x) (aC (ak w x) k).1]);exact rN.X6 b (mg (aG w x) (ak w x) (aC (ak w x) k).1) V d _ (by rw[hV];simp) x2 K (by omega) g1 h2 (by simp[mg,nr,lq])
    ·rw[zU w f x k c d D (by rw[J,h2];rfl),J];refine ih n x _ c y _ _ N hx hl.2.1 hS hn (by omega) (g2 (by simpa using h2)) ?_ (by simp;omega) U;intro u hu;rcases Ug.1 hu with hu | hu
     ·exact T u hu
     ·rw[TI.1 hu];exact x2
   ·-- an inclusion
    have J:ia w f x k c d=oe (cW w f) w x (aC (ak w x) k).2 (lq (aG w x) (ak w x) (aC (ak w x) k).1.pos) c d:=by
     unfold ia kt;rw[hi,Tr rfl]
    have p:∀(W:List Tk) (u:Tk) (fl:pu),sP w x (aC (ak w x) k).2 (lq (aG w x) (ak w x) (aC (ak w x) k).1.pos) d=.inl fl->fl=(u.X6,nr u)->(u.X6==0)=false->rN w N (bH w (f+1) x k c d) (b++[u],y):=fun W u fl af e h0=>by
     have e2:oe (cW w f) w x (aC (ak w x) k).2 (lq (aG w x) (ak w x) (aC (ak w x) k).1.pos) c d=((fl,c,d),(aC (ak w x) k).2):=by
      unfold oe;rw[af]
     rw[pD w f x k c d D (by rw[J,e2,e];exact h0),J,e2];exact rN.ends b u d rfl h0 K T e
    cases Q:dH b
    ·rw[Q]at C;rw[NM _ _ _ _ _ _ P (by exact hi) Q];exact p b (rZ (mg (aG w x) (ak w x) (aC (ak w x) k).1) 4) _ (by unfold sP;rw[Tr (by rw[C];rfl)];rfl) rfl rfl
    ·rw[Q]at C;have v:¬lM d=true:=(by rw[C];simp);obtain⟨z,hz⟩:∃z,z=(aC (ak w x) k).2:=⟨_,rfl⟩
     rw[<-hz]at hl az J p ⊢;have ha:=gq (ak w x) z hl.2.1;obtain⟨a1,a2⟩:=vn (ak w x) z hl.2.1;cases g:aM (aC (ak w x) z).1
     ·obtain⟨y1,y2⟩:=a2 g;rw[kJ _ _ z g,Tm _ _ _ _ _ _ P (by exact hi) Q];have O:dK w (mg (aG w x) (ak w x) (aC (ak w x) z).1).s (mg (aG w x) (ak w x) (aC (ak w x) z).1).X6=if(aC (ak w x) z).1.XY=true then 7 else(aC (ak w x) z).1.X6:=by
       cases B:(aC (ak w x) z).1.XY
       ·exact Kg w _ _ (kU g B)
       ·exact Kh w _ _ (y2 B) y1
      refine p b _ _ (by unfold sP;rw[Tp v,Tr g]) (by simp only[jx,rZ,nr];rw[O];rfl) ?_;simp only[rZ];rw[O];cases B:(aC (ak w x) z).1.XY
      ·exact kU g B
      ·rfl
     ·have ap:=ha.2.2 g;obtain⟨y1,y2⟩:=a1 g;obtain⟨o,I⟩:∃o,o=(aC (ak w x) z).2:=⟨_,rfl⟩
      rw[kK _ _ z hl.2.1 g,<-I];rw[<-I]at ha ap;have X:=gq (ak w x) o ha.2.1;obtain⟨b1,b2⟩:=vn (ak w x) o ha.2.1;obtain⟨tl,Y⟩:∃tl,mN (aG w x) (ak w x) o=mg (aG w x) (ak w x) (aC (ak w x) o).1 :: tl:=by
       cases i:aM (aC (ak w x) o).1
       ·exact⟨[],kJ _ _ o i⟩
       ·exact⟨_,kK _ _ o ha.2.1 i⟩
      rw[Y,IP _ _ _ _ _ _ _ _ P (by exact hi) Q];have O:dK w (mg (aG w x) (ak w x) (aC (ak w x) z).1).s (mg (aG w x) (ak w x) (aC (ak w x) z).1).X6=if dD (aC (ak w x) z).1.text=true then 5 else if bU w (aC (ak w x) z).1.text<0 then 6 else 0:=by
       exact FJ w _ _ y2 y1
      rw[O];have av:(mg (aG w x) (ak w x) (aC (ak w x) z).1).s=(aC (ak w x) z).1.text:=rfl;rw[av];cases H:dD (aC (ak w x) z).1.text
      ·by_cases E:bU w (aC (ak w x) z).1.text<0
       ·simp only[Bool.false_eq_true,if_false,if_pos E];rw[Tr (show((6:Int)==0)=false from rfl)];exact p b _ _ (by unfold sP;rw[Tp v,Tp (by rw[g];simp),Tp (by rw[H];simp),Tr E];rfl) rfl rfl
       ·simp only[Bool.false_eq_true,if_false,if_neg E];rw[Tp (show ¬((0:Int)==0)=false by decide)];have ar:eC (mg (aG w x) (ak w x) (aC (ak w x) o).1).s (mg (aG w x) (ak w x) (aC (ak w x) o).1).X6=if aM (aC (ak w x) o).1=false then(if(aC (ak w x) o).1.XY=true then 7 else(aC (ak w x) o).1.X6) else if((aC (ak w x) o).1.text.toList == [36,93])=false then 5 else 0:=by
         cases i:aM (aC (ak w x) o).1
         ·obtain⟨y3,y4⟩:=b2 i;rw[Tr rfl];cases B:(aC (ak w x) o).1.XY
          ·exact E6 _ _ (kU i B)
          ·exact E7 _ _ (y4 B) y3
         ·obtain⟨y3,y4⟩:=b1 i;rw[Tp (by simp)];exact CN _ _ y4 y3
        rw[ar];cases i:aM (aC (ak w x) o).1
        ·rw[Tr rfl];have ag:((if(aC (ak w x) o).1.XY=true then 7 else(aC (ak w x) o).1.X6)==0)=false:=by
          cases B:(aC (ak w x) o).1.XY
          ·exact kU i B
          ·rfl
         rw[Tr ag];exact p b _ _ (by unfold sP;rw[Tp v,Tp (by rw[g];simp),Tp (by rw[H];simp),Tp E,<-I,Tr i];rfl) rfl ag
        ·simp only[Bool.true_eq_false,if_false];cases ad:((aC (ak w x) o).1.text.toList == [36,93])
         ·rw[Tr rfl,Tr (show((5:Int)==0)=false from rfl)];exact p b _ _ (by unfold sP;rw[Tp v,Tp (by rw[g];simp),Tp (by rw[H];simp),Tp E,<-I,Tp (by rw[i];simp),Tr ad];rfl) rfl rfl
         ·simp only[Bool.true_eq_false,if_false];rw[Tp (show ¬((0:Int)==0)=false by decide)]
          -- the XZ is named
          have a3:=X.2.2 i;have al:tl=mN (aG w x) (ak w x) (aC (ak w x) o).2:=by
           rw[kK _ _ o ha.2.1 i]at Y;exact(Xy Y).2.symm
          rw[al];obtain⟨j,hj⟩:∃j,j=(bU w (aC (ak w x) z).1.text).toNat:=⟨_,rfl⟩
          have M:j<w.length:=by
           rcases qC (aC (ak w x) z).1.text w with h | ⟨q,hq,h⟩
           ·rw[h]at E;omega
           ·rw[hj,h,Ur];exact hq
          rw[<-hj];have l:ia w f x k c d=(cW w f j c d,(aC (ak w x) o).2):=by
           rw[J];unfold oe sP;rw[Tp v,Tp (by rw[g];simp),Tp (by rw[H];simp),Tp E,<-I,Tp (by rw[i];simp),Tp (by rw[ad];simp),<-hj]
          have G:=hS.e j M;cases L:c.getD j true
          ·rw[L]at G;have aS:y[j]?=some false:=by
            have:=hS.s;rw[Tn (by omega)];rw[To,Tn (by omega)]at G;exact congrArg some G.symm
           have a4:=l8 y j aS;rw[Tp (by rw[<-G];simp)];have A:cW w f j c d=bH w f j 0 (c.set j true) d:=(by unfold cW;rw[L,Tp (by simp)]);obtain⟨m,hm⟩:∃m,n=m+1:=⟨n-1,by omega⟩
           have er:eU w n j y b=da (eU w m) w (mN (aG w j) (ak w j) 0) (y.set j true) b:=(by rw[hm,eU,Az]);have a0:=aT j M;have R1:=ih m j 0 (c.set j true) (y.set j true) d b (b.length+1025*aV y) M (Uc _) (hS.set ax j M) (by omega) (by omega) K T (by omega) (by omega);rw[<-er,<-A]at R1;have ai:=vt w n j y b;generalize eU w n j y b=S at *;rcases R1 with ⟨Z,R,r3,r4,r5⟩ | ⟨W,u,d0,Z,R,r3,r4,r5⟩ | ⟨W,t,V,d0,r,Z,R,r3,r4,r5,r6,r7⟩
           ·rw[zE r3,Tp (by simp),zU w f x k c d D (by rw[l,Z];rfl),l];have a5:aV S.2<=aV y:=by
             obtain⟨V,hV⟩:=ai;rw[hV,Tv]at r5;omega
            exact ih n x _ _ S.2 _ S.1 N hx X.2.1 r4 (by omega) (by simp only;omega) R r3 (by simp only;omega) U
           ·have ac:fk S.1=true:=(by unfold fk;rw[Z,VD];simp only;rw[R];rfl);rw[ac,Tr rfl,pD w f x k c d D (by rw[l,r5];exact R),l];exact rN.ends W u d0 Z R r3 r4 r5
           ·rw[pD w f x k c d D (by rw[l,r7];exact r6),l];cases ac:fk S.1
            ·rw[Tp (by simp)];obtain⟨V2,ao⟩:=BK (eU w n) w (vt w n) _ (mN (aG w x) (ak w x) (aC (ak w x) o).2) (Tq _) S.2 S.1;exact rN.X6 W t (V++V2) d0 r (by rw[ao,Z];simp) R r3 (by omega) r5 r6 r7
            ·rw[Tr rfl];exact rN.X6 W t V d0 r Z R r3 (by omega) r5 r6 r7
          ·rw[L]at G;have A:cW w f j c d=(cZ,c,d):=(by unfold cW;rw[L,Tr rfl]);rw[Tr G.symm,zU w f x k c d D (by rw[l,A];rfl),l,A];exact ih n x _ c y d b N hx X.2.1 hS hn (by omega) K T (by omega) U
      ·simp only[if_true];rw[Tr (show((5:Int)==0)=false from rfl)];exact p b _ _ (by unfold sP;rw[Tp v,Tp (by rw[g];simp),Tr H];rfl) rfl rfl
def MR(t:Tk):pu:=(t.X6,nr t)
def gj(fs:Fs)(k:Nat):pu :=
 if((zO (cN fs k).1 (aa (cN fs k).1)).X6==0)=false then MR (zO (cN fs k).1 (aa (cN fs k).1)) else MR (cN fs k).2
theorem Ij(h:rM z z0):zO z (aa z)=gU:=QF h.u
theorem xy(k:w.length<=4)(p:∀j,j<w.length->(ak w j).size<=1024)(n:H<w.length) :
  (bE w H).1=gj w H/\(((bE w H).1.1==0)=true->rM (cN w H).1 (bE w H).2.2/\(cN w H).1.length<=10000):=by
 have i:QO w Ia (List.replicate w.length false):=⟨rfl,by simp,fun j l=>by
  rw[To,To,UP,Tr l]
  match j,(show j<4 by omega) with
  | 0,_=>rfl
  | 1,_=>rfl
  | 2,_=>rfl
  | 3,_=>rfl⟩
 have o:(List.replicate w.length false)[H]?=some false:=by rw[UP,Tr n]
 have z:=l8 _ H o;rw[nY]at z;have C:=p H n;have G:bE w H=bH w 5000 H 0 (Ia.set H true) fT:=by
  unfold bE cW;rw[i.e H n,To,o];rfl
 have I:eU w w.length H (List.replicate w.length false) []=da (eU w (w.length-1)) w (mN (aG w H) (ak w H) 0) ((List.replicate w.length false).set H true) []:=by
  obtain⟨m,K⟩:∃m,w.length=m+1:=⟨w.length-1,by omega⟩
  have:w.length-1=m:=by omega
  rw[this]
  conv=>lhs;rw[show eU w w.length=eU w (m+1) by rw[K]]
  rw[eU,Az]
 have B:=NS w k p 5000 (w.length-1) H 0 (Ia.set H true) ((List.replicate w.length false).set H true) fT [] 5000 n (Uc _) (i.set k H n) (by omega) (by omega) (MX rfl) (fun t L=>by cases L) (by simp only[List.length_nil];omega) (by omega);rw[<-G,<-I]at B;have q:(eU w w.length H (List.replicate w.length false) []).1=qq w H:=rfl;generalize eU w w.length H (List.replicate w.length false) []=N at *;unfold gj cN;rcases B with ⟨b,d,f,D,g⟩ | ⟨W,u,F,b,d,f,D,g⟩ | ⟨W,t,V,F,r,b,d,f,D,g,A,E⟩
 ·rw[q]at d f g;simp only[zE f,Bool.false_eq_true,if_false];rw[Ij d,Tp (by decide)];exact⟨b,fun _=>⟨d,by omega⟩⟩
 ·rw[q]at b;have a:fk (qq w H)=true:=by unfold fk;rw[b,VD];simp only;rw[d];rfl
  rw[a,Tr rfl,b,List.dropLast_concat,VD];simp only[Option.getD_some];rw[Ij f,Tp (by decide)];exact⟨g,fun h=>by rw[g]at h;simp only at h;rw[d]at h;cases h⟩
 ·rw[q]at b;obtain⟨c,s⟩:∃c,(if fk (qq w H)=true then((qq w H).dropLast,(qq w H).getLast?.getD gU) else(qq w H,gU)).1=(W++[t])++c:=by
   cases a:fk (qq w H)
   ·rw[Tp (by simp)];exact⟨V,by simp only;rw[b];simp⟩
   ·rw[Tr rfl];cases V with
    | nil =>
     unfold fk at a;rw[b,VD]at a;simp only[d]at a;cases a
    | cons v V=>exact⟨(v :: V).dropLast,by simp only;rw[b,List.dropLast_append_of_ne_nil (by simp),List.dropLast_cons_of_ne_nil (by simp)];simp⟩
  rw[s];have M:=sI W (t :: c) (by omega) f.u;have x:=xl (W++[t]) c (by simp;omega) W.length (by simp) (fun j l=>sI W [t] (by omega) f.u j l);rw[g]at x
  have y:=ML (T:=(W++[t])++c) (S:=aa ((W++[t])++c)) (k:=W.length) (by simp) (by rw[x];exact A) (fun j l=>by
   have:=M j l;rw[show W++t :: c=(W++[t])++c by simp]at this;exact this)
  have J:((W++[t])++c).getD W.length gU=t:=by
   rw[To,U5,TJ (Tq _),Uz];simp
  rw[y,x,J];simp only;rw[Tr A];exact⟨E,fun h=>by rw[E]at h;simp only at h;rw[A]at h;cases h⟩
theorem Jy:((aI y H).toNat:Int)=aI y H:=by
 unfold aI;split <;> simp
theorem PE:(xU (Sz x)).map Lx=tn x:=by
 unfold xU tn;rw[List.map_map];apply VH;intro j a
 show(⟨((aI x.s j).toNat:Int),x.XZ,x.X0,x.X3+j⟩:Lt)=⟨aI x.s j,x.XZ,x.X0,x.X3+j⟩
 rw[Jy]
theorem GO:((jA i n H).flatMap xU).map Lx=eQ i n H:=by
 unfold jA eQ;rw[List.map_flatMap,List.flatMap_map];congr 1
 funext t
 exact PE t
def R6(T:List Tk)(S:List Sm)(l:List St)(a A:Nat)(x:Xs):Prop:=(jH l x a=none/\dY T S A x<0)∨∃n,jH l x a=some n/\n<l.length/\dY T S A x=(aw S n:Nat)
section
variable {T:List Tk} {S:List Sm} {l:List St} {a A:Nat}
theorem Q4(f:∀i j,i<l.length->j<l.length->aw S i=aw S j->i=j){d:Xv}(c:∀b∈d,b<l.length)(g:b<l.length):jy d b=(d.map (aw S)).contains (aw S b):=by
 unfold jy;rw[UL,Ut,VN,UG];constructor
 ·rintro ⟨y,a,e⟩;have e:y=b:=by simpa using e
  exact⟨y,a,by rw[e]⟩
 ·rintro ⟨y,a,e⟩;exact⟨y,a,by rw[f y b (c y a) g e];simp⟩
theorem Mv(y:∀x,(x.toList == [])=false->R6 T S l a A x)(w:∀q,q<T.length->((tS T q).toList == [])=false)(v:∀i j,i<l.length->j<l.length->aw S i=aw S j->i=j)(b z:Nat)(D:z<T.length)(m:Nat) :
  ∀k c,b+k+m=z->(∀n∈c,n<l.length) ->
  rV T S A z m (b+k) (c.map (aw S))=rg T S (mZ (nr (T.getD z gU)) (Cs (b8 l a (nr (T.getD z gU)) k (jA T (b+k) z) c).1.2 ((jA T b z).drop (b8 l a (nr (T.getD z gU)) k (jA T (b+k) z) c).1.1) ⟨(b8 l a (nr (T.getD z gU)) k (jA T (b+k) z) c).2,[],[],0,false⟩)):=by
 induction m with
 | zero =>
  intro k c h f;rw[Ve]at h;rw[h,wX,b8,rV];rfl
 | succ m C =>
  intro k c h f;have s:=yX T (b+k) z (by omega) (by omega);by_cases e:((tS T (b+k)).toList == [41])=true
  ·have d:b8 l a (nr (T.getD z gU)) k (jA T (b+k) z) c=((k+1,cZ),c):=(by rw[s,b8,Tr e]);rw[d,rV,Tr e];unfold j8;have o:EO (T.getD z gU)=Lx (0,nr (T.getD z gU)):=rfl;have g:Cs cZ ((jA T b z).drop (k+1)) ⟨c,[],[],0,false⟩=Bl ((jA T (b+k+1) z).flatMap xU) ⟨c,[],[],0,false⟩:=by
    unfold Cs;rw[Tr (by rfl),EG,AI,V6]
   simp only;rw[g,o,<-GO];exact FB T S _ _ _ _ _ _ _ _ ⟨rfl,rfl,rfl,rfl,(fun x u=>by rw[nt]at u;cases u),TH (by rw[nt];rfl),fun _=>nt⟩
  ·rw[rV,Tp e];rcases y (tS T (b+k)) (w _ (by omega)) with ⟨r,o⟩ | ⟨n,r,t,o⟩
   ·have d:b8 l a (nr (T.getD z gU)) k (jA T (b+k) z) c=((0,(2,nr (T.getD (b+k) gU))),c):=(by rw[s,b8,Tp e,r]);rw[d,Tr o];rfl
   ·rw[o,Tp (by omega),Ur,<-Q4 v f t];by_cases g:jy c n=true
    ·have d:b8 l a (nr (T.getD z gU)) k (jA T (b+k) z) c=((0,(3,nr (T.getD (b+k) gU))),c):=(by rw[s,b8,Tp e,r];exact Tr g);rw[d,Tr g];rfl
    ·have d:b8 l a (nr (T.getD z gU)) k (jA T (b+k) z) c=b8 l a (nr (T.getD z gU)) (k+1) (jA T (b+k+1) z) (c++[n]):=(by rw[s,b8,Tp e,r];exact Tp g);have p:∀i∈c++[n],i<l.length:=fun i B=>by
      rcases Ug.1 B with h | h
      ·exact f i h
      ·rw[TI.1 h];exact t
     have:=C (k+1) (c++[n]) (by omega) p;rw[Uh,show b+(k+1)=b+k+1 by omega]at this;rw[d,Tp g];exact this
theorem PI(j:∀x,(x.toList == [])=false->R6 T S l a A x)(i:∀q,q<T.length->((tS T q).toList == [])=false)(z:Nat)(o:z<T.length)(m:Nat) :
  ∀b c,b+m=z->mt T S A z m b (c.map (rr T S))=rg T S (dN l a (nr (T.getD z gU)) (jA T b z) c):=by
 induction m with
 | zero =>
  intro b c h;rw[Ve]at h;rw[h,wX,dN,mt,TT];split <;> rfl
 | succ m g =>
  intro b c h;rw[yX T b z (by omega) (by omega),dN,mt];by_cases e:((tS T b).toList == [63])=true
  ·rw[Tr e,Tr e,<-g (b+1) (c++[(⟨1,0,nr (T.getD b gU)⟩:kD)]) (by omega),Uh];rfl
  ·rw[Tp e,Tp e];rcases j (tS T b) (i _ (by omega)) with ⟨d,f⟩ | ⟨n,d,k,f⟩
   ·rw[d,Tr f];rfl
   ·rw[d,f,Tp (by omega)];simp only;rw[<-g (b+1) (c++[(⟨2,n,nr (T.getD b gU)⟩:kD)]) (by omega),Uh];rfl
theorem JE(e:∀x,(x.toList == [])=false->R6 T S l a A x)(d:∀q,q<T.length->((tS T q).toList == [])=false)(s:∀i j,i<l.length->j<l.length->aw S i=aw S j->i=j)(r:(aP l a).map (aw S)=a9 T S A)(t:∀n∈aP l a,n<l.length)(v:b<o)(k:o<T.length)(f:((tS T o).toList == [36,46])=true)(c:m.XK=jA T (b+1) o)(g:m.XY=nr (T.getD o gU)) :
  fC T S A b o=rg T S (dC l a m):=by
 unfold fC dC;have u:vf m=((tS T (b+1)).toList == [40]):=by
  unfold vf;rw[c];by_cases h:b+1<o
  ·rw[yX T (b+1) o h (by omega)]
  ·rw[show b+1=o by omega,wX];rw[cI f];decide
 rw[u];split
 ·next h =>
  have w:b+1<o:=by
   by_cases p:b+1<o
   ·exact p
   ·rw[show b+1=o by omega,cI f]at h;exact absurd h (by decide)
  unfold jS kP zL;rw[g,c,<-r,EG];exact Mv e d s (b+1) o k (o-(b+2)) 1 (aP l a) (by omega) t
 ·rw[g,c];exact PI e d o k _ (b+1) [] (by omega)
end
def yS(R:List St)(a:Nat)(vs:Xt)(k i j:Nat):Bool:=(List.range k).any (fun n=>tQ R a n&&(bM vs (symsAt R n)).contains i&&(bM vs (symsAt R n)).contains j)
theorem Dy(a:Xv)(b:List Bool)(q:Nat)(c:q<b.length):(lk n H a b).getD q false=(b.getD q false||a.any (fun g=>H*n+g==q)):=by
 unfold lk
 induction a generalizing b with
 | nil=>simp
 | cons m a f =>
  simp only[List.foldl_cons,List.any_cons];rw[f (b.set (H*n+m) true) (by simpa using c)];by_cases e:H*n+m=q
  ·subst e;rw[To,List.getElem?_set_self c];simp
  ·have d:(H*n+m==q)=false:=(by rw[TU];exact e);rw[To,List.getElem?_set_ne e,<-To,d,UN]
theorem Dx(a r:Xv)(b:List Bool)(q:Nat)(d:q<b.length):(r.foldl (fun b c=>lk H c a b) b).getD q false=(b.getD q false||r.any (fun c=>a.any (fun f=>c*H+f==q))):=by
 induction r generalizing b with
 | nil=>simp
 | cons m r e =>
  simp only[List.foldl_cons,List.any_cons];rw[e (lk H m a b) (by rw[qM];exact d),Dy H m a b q d,V7]
theorem DI{j a c:Nat}(e:c<b)(f:j<b)(h:a*b+c=o*b+j):a=o/\c=j:=by
 have d:(a*b+c) / b=a:=by rw[Nat.mul_comm,Nat.mul_add_div (by omega)];rw[Nat.div_eq_of_lt e];omega
 have g:(o*b+j) / b=o:=by rw[Nat.mul_comm,Nat.mul_add_div (by omega)];rw[Nat.div_eq_of_lt f];omega
 rw[h]at d;have:a=o:=by omega
 subst this;exact⟨rfl,by omega⟩
theorem Kc(k i j:Nat)(n:i<L.length)(e:j<L.length):(dF I N L k).getD (i*L.length+j) false=yS I N L k i j:=by
 have f:i*L.length+j<L.length*L.length:=Av n e
 induction k with
 | zero =>
  unfold yS;rw[dF,To,UP,Tr f];rfl
 | succ k g =>
  have l:yS I N L (k+1) i j=(yS I N L k i j||(tQ I N k&&(bM L (symsAt I k)).contains i&&(bM L (symsAt I k)).contains j)):=by
   unfold yS;rw[UU,Xp];simp
  rw[l,dF];cases p:tQ I N k
  ·simp only[Bool.false_eq_true,if_false,Bool.false_and,Bool.or_false];exact g
  ·simp only[if_true,Bool.true_and];unfold mB;rw[Dx _ _ _ _ _ (by rw[mC];exact f),g];congr 1;rw[UL];simp only[List.any_eq_true,Bool.and_eq_true,List.contains_iff_mem,beq_iff_eq];constructor
   ·rintro ⟨q,c,r,b,m⟩;obtain⟨o,d⟩:=Uy b;have a:=uk L (symsAt I k) o d.1;rw[d.2]at a;obtain⟨rfl,rfl⟩:=DI a e m;exact⟨c,b⟩
   ·rintro ⟨c,b⟩;exact⟨i,c,j,b,rfl⟩
theorem Jk(a:n<L.length)(b:H<L.length):fH L.length (gM I N L) n H=(!(n==H)&&yS I N L I.length n H):=by
 unfold fH gM;rw[Kc I N L I.length n H a b]
def nS(l N:List St)(a:Nat):Xt:=((List.range N.length).filter (fun j=>Bh (l++N) a (l.length+j))).flatMap (symsAt N)
end Go.Proofs.YtnbhnocdhbcbcaaGreat
