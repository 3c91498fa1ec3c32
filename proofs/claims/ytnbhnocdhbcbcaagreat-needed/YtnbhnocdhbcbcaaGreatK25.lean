import Derived.Test.YtnbhnocdhbcbcaaGreatK12
import Derived.Test.YtnbhnocdhbcbcaaGreatK24
namespace Go.Proofs.YtnbhnocdhbcbcaaGreat
open Go.RowKit Tryz
open Value IntKind Ending
set_option maxHeartbeats 0
variable{p:List UInt8}{r:Xs}{b o:Nat}{m:St}{z0:Db}{u:Fs}{q:G6}{g:List Tk×List Bool}{z:List Tk}(k:List Tk)(x:Tk)(i:List Tk)(B:Db)(w:Fs)(y:Xs)(v:Int)(I:List St)(N:Nat)(L:Xt)(n H:Nat)(f:Xs)
theorem wV:(y++f).toList=y.toList++f.toList:=by
 rw[Un,Un,Un,ByteArray.data_append,Array.toList_append]
theorem nr:(⟨#[]⟩:Xs).toList=[]:=by rw[Un]
theorem Cb(u:UInt8):(⟨#[u]⟩:Xs).toList=[u]:=by rw[Un]
def kt(D:List UInt8):Nat:=D.foldl (fun v c=>v*5+(c.toNat-84)) 0
theorem tw(D:List UInt8)(c:UInt8):kt (D++[c])=kt D*5+(c.toNat-84):=by
 unfold kt;rw[Vo];rfl
def digs:Nat->Nat->List UInt8
 | 0,_=>[]
 | f+1,h=>if 0<h then digs f ((h-1) / 5)++[UInt8.ofNat (85+(h-1) % 5)] else []
theorem Fw(f:Nat):∀h s,(vW f h s).toList=digs f h++s.toList:=by
 induction f with
 | zero=>intro h s;rfl
 | succ f a =>
  intro h s;rw[vW,digs];split
  ·rw[a,wV,Fy,Cb,U4]
  ·rfl
theorem GZ(f:Nat):∀h,h<=f->kt (digs f h)=h:=by
 induction f with
 | zero=>intro h a;rw[show h=0 by omega];rfl
 | succ f b =>
  intro h a;rw[digs];split
  ·rw[tw,b _ (by omega),UInt8.toNat_ofNat'];omega
  ·rw[show h=0 by omega];rfl
def Jd(D:List UInt8):Prop:=∀c∈D,85<=c.toNat/\c.toNat<=89
theorem xq(D:List UInt8):∀f,Jd D->kt D<=f->digs f (kt D)=D:=by
 induction h:D.length generalizing D with
 | zero =>
  intro f _ _;rw[VR.1 h];cases f <;> rfl
 | succ n g =>
  intro f a b;obtain⟨E,c,rfl⟩:∃E c,D=E++[c]:=⟨D.dropLast,D.getLast (by intro e;rw[e]at h;simp at h),(V4 _).symm⟩
  have i:=a c (by simp);rw[tw]at b ⊢;cases f with
  | zero=>omega
  | succ f =>
   rw[digs,Tq (by omega),show(kt E*5+(c.toNat-84)-1) / 5=kt E by omega,g E (by simpa using h) f (fun x d=>a x (by simp[d])) (by omega)];congr 1;rw[show 85+(kt E*5+(c.toNat-84)-1) % 5=c.toNat by omega,UInt8.ofNat_toNat]
theorem G0(a:Jd p):kt p=0 ↔ p=[]:=by
 constructor
 ·intro h;have:=xq p 0 a (by omega);rw[<-this];rfl
 ·rintro rfl;rfl
theorem Nt{c:UInt8}(j:r.toList=p++[c])(g:Jd p)(k:65<=c.toNat/\c.toNat<=84)(i:Nat):xY r i=true ↔ i=kt p*20+(c.toNat-65):=by
 unfold xY mz;rw[U9,Fw,j,Pv,Cb];constructor
 ·intro h;obtain⟨d,f⟩:=List.append_inj' h rfl;have e:=GZ (i+1) (i / 20) (by omega);rw[d]at e;have a:(UInt8.ofNat (65+i % 20)).toNat=c.toNat:=by rw[Xx f |>.1]
  rw[UInt8.toNat_ofNat']at a;omega
 ·intro h;have b:i / 20=kt p:=by omega
  have a:65+i % 20=c.toNat:=by omega
  rw[b,a,xq p _ g (by omega),UInt8.ofNat_toNat]
theorem Ko{s:Xs}{D:List UInt8}{c:UInt8}(g:s.toList=D++[c])(e:Jd D)(f:65<=c.toNat/\c.toNat<=84)(a:Nat):gu s a=if kt D*20+(c.toNat-65)<a then kt D*20+(c.toNat-65)+1 else 0:=by
 unfold gu;split
 ·next i h =>
  have j:=(Nt g e f i).1 (Vg h);have d:=TF.1 (Ur h);rw[j]at d ⊢;rw[Tq d]
 ·next h =>
  rw[To];intro b;rw[UD]at h;exact h _ (TF.2 b) ((Nt g e f _).2 rfl)
def rm(T:List Tk)(S:List Sm)(s:kC):di :=
 if s.XS=1 then⟨-1,0,0,s.at_.XY,s.at_.XZ,s.at_.X0⟩
 else if s.XS=2 then⟨(aw S s.Xz:Nat),0,gM T S (aw S s.Xz:Nat),s.at_.XY,s.at_.XZ,s.at_.X0⟩
 else⟨-2,s.Xz,0,s.at_.XY,s.at_.XZ,s.at_.X0⟩
def rd(T:List Tk)(S:List Sm)(q:List kC×pt):jO:=⟨q.1.map (rm T S),q.2.1,q.2.2.XY,q.2.2.XZ,q.2.2.X0⟩
def Lw(x:Nat×Pl):Lt:=⟨(x.1:Int),x.2.XY,x.2.XZ,x.2.X0⟩
def xT(x:Xs×Pl):List (Nat×Pl):=(List.range x.1.size).map (fun j=>((aI x.1 j).toNat,{ x.2 with X0:=x.2.X0+j }))
def Bk:List (Nat×Pl)->lB->pt×lB
 | [],c=>(cY,c)
 | x :: r,c=>if((bI c x.1 x.2).1==0)=true then Bk r (bI c x.1 x.2).2 else(((bI c x.1 x.2).1,x.2),(bI c x.1 x.2).2)
theorem Pf(A B:List (Nat×Pl)):∀c,Bk (A++B) c=if((Bk A c).1.1==0)=true then Bk B (Bk A c).2 else Bk A c:=by
 induction A with
 | nil=>intro c;rw[V3,Bk,Tq (by rfl)]
 | cons x r a =>
  intro c;rw[Vx,Bk,Bk];split
  ·exact a _
  ·rfl
theorem GR(p:Pl)(k:Nat):∀a j c,j+k=f.size->k<a->ia f p a j c=Bk ((List.range' j k).map (fun j=>((aI f j).toNat,{ p with X0:=p.X0+j }))) c:=by
 induction k with
 | zero =>
  intro a j c h b;cases a with
  | zero=>omega
  | succ a=>rw[ia,To (by omega)];rfl
 | succ k d =>
  intro a j c h b;cases a with
  | zero=>omega
  | succ a =>
   rw[ia,Tq (by omega),List.range'_succ,Vm,Bk,d a (j+1) _ (by omega) (by omega)]
theorem OE(x:Xs×Pl)(c:lB):l9 x.1 x.2 c=Bk (xT x) c:=by
 unfold l9 xT;rw[GR x.1 x.2 x.1.size _ 0 c (by omega) (by omega),List.range_eq_range']
theorem AH(a:List (Xs×Pl)):∀c,pV a c=Bk (a.flatMap xT) c:=by
 induction a with
 | nil=>intro c;rfl
 | cons x r b =>
  intro c;obtain⟨t,p⟩:=x;rw[pV,Uu,Pf,OE (t,p) c,b]
structure QA(T:List Tk)(S:List Sm)(refs:Xv)(c:lB)(P:List di)(tags:Xv)(num:Xs)(fr:Bool):Prop where
 st:P=c.steps.map (rm T S)
 tg:tags=c.XL
 rf:refs=c.XW.map (aw S)
 fr:fr=c.behind
 dg:Jd num.toList
 wo:c.XF=kt num.toList∨(c.XW.length+c.XL.length<c.XF/\c.XW.length+c.XL.length<kt num.toList)
 no:c.behind=true->num.toList=[]
theorem Bb:(wG (H:Int)).toList=[UInt8.ofNat H]:=by
 unfold wG;rw[Cb,Uq]
theorem Ce(h:b<256):(UInt8.ofNat b).toNat=b:=by rw[UInt8.toNat_ofNat'];omega
section
variable {T:List Tk} {S:List Sm} {refs:Xv} {c:lB} {P:List di} {tags:Xv} {num:Xs} {fr:Bool}
theorem QA.zero(E:QA T S refs c P tags num fr):c.XF=0 ↔ num.toList=[]:=by
 rw[<-G0 E.dg];rcases E.wo with h | ⟨a,b⟩ <;> omega
theorem QA.digit(E:QA T S refs c P tags num fr)(g:85<=b/\b<=89):QA T S refs (jK c (b-84)) P tags (num++wG (b:Int)) false:=by
 have a:Jd (num++wG (b:Int)).toList:=by
  rw[wV,Bb];intro x i;rcases Uf.1 i with h | h
  ·exact E.dg x h
  ·rw[TH.1 h,Ce (by omega)];exact g
 have d:kt (num++wG (b:Int)).toList=kt num.toList*5+(b-84):=by rw[wV,Bb,tw,Ce (by omega)]
 unfold jK;split
 ·next h =>
  refine⟨E.st,E.tg,E.rf,rfl,a,?_,fun h=>by cases h⟩;rw[d];rcases E.wo with w | ⟨e,f⟩
  ·exact TG (by show c.XF*5+(b-84)=_;rw[w])
  ·omega
 ·next h =>
  refine⟨E.st,E.tg,E.rf,rfl,a,TA ?_,fun h=>by cases h⟩;rw[d];show _<c.XF/\_;have:c.XW.length+c.XL.length<kt num.toList:=by rcases E.wo with w | ⟨e,f⟩ <;> omega
  exact⟨by show c.XW.length+c.XL.length<c.XF;omega,by show c.XW.length+c.XL.length<_;omega⟩
theorem QA.numb(E:QA T S refs c P tags num fr)(d:65<=b/\b<=84)(a:Nat):gu (num++wG (b:Int)) a=if kt num.toList*20+(b-65)<a then kt num.toList*20+(b-65)+1 else 0:=by
 have:=Ko (s:=num++wG (b:Int)) (D:=num.toList) (c:=UInt8.ofNat b) (by rw[wV,Bb]) E.dg (by rw[Ce (by omega)];exact d) a;rw[Ce (by omega)]at this;exact this
end
theorem Fz(S:List Sm)(s:Pl)(X:List (Nat×Pl)):∀(a:Xv) (c:lB) (P:List di) (b:Xv) (d:Xs) (t:Bool),QA i S a c P b d t ->
  mK i S a (Lw (0,s)) (X.map Lw) P b d t=rd i S (mY s (Bk X c)):=by
 induction X with
 | nil =>
  intro a c P b d t E;have e:mY s (cY,c)=(if c.XF=0 then(if c.steps.length=0 then([],(1,s)) else(c.steps,cY)) else([],(4,s))):=rfl;rw[WS,mK,Bk,e];by_cases h:c.XF=0
  ·have g:d.toList=[]:=E.zero.1 h;rw[g,To (by simp),Tq h,E.st,TR];split
   ·rfl
   ·rfl
  ·have g:¬d.toList=[]:=fun e=>h (E.zero.2 e);rw[Tq (TT.2 g),To h];rfl
 | cons x r A =>
  intro a c P b d t E;obtain⟨n,p⟩:=x;have v:=E.st;have l:=E.tg;have q:=E.rf;have G:=E.fr;rw[Vm,mK,Bk,show(Lw (n,p)).c=(n:Int) from rfl]
  show(if 85<=(n:Int)/\(n:Int)<=89 then _ else _)=_
  by_cases u:85<=n/\n<=89
  ·have e:bI c n p=(0,jK c (n-84)):=(by unfold bI;rw[To (by omega),Tq u]);rw[Tq (by omega),e,Tq (by rfl)];exact A _ _ _ _ _ _ (E.digit u)
  rw[To (by omega)]
  show(if 65<=(n:Int)/\(n:Int)<=84 then _ else _)=_
  by_cases g:65<=n/\n<=84
  ·have y:a.length=c.XW.length:=(by rw[q,TR]);have j:c.XF*20+(n-64)-1=c.XF*20+(n-65):=(by omega);have e:bI c n p=fk c (n-64) p:=(by unfold bI;rw[Tq g]);have k:=E.numb g (a.length+b.length);rw[Tq (by omega),e]
   show(if gu (d++wG (n:Int)) (a.length+b.length)=0 then _ else _)=_
   rcases E.wo with w | ⟨L,M⟩
   ·rw[<-w]at k;by_cases C:c.XF*20+(n-65)<c.XW.length
    ·have m:fk c (n-64) p=(0,{ dO { c with XF:=0 } ⟨2,c.XW.getD (c.XF*20+(n-65)) 0,p⟩ with behind:=true }):=(by unfold fk;rw[j,Tq C]);rw[Tq (by rw[y];omega)]at k;rw[k,To (by omega),m,Tq (by rfl)];refine A _ _ _ _ _ _ ⟨?_,l,q,rfl,(fun x z=>by rw[nr]at z;cases z),TG (by rw[nr];rfl),fun _=>nr⟩;show _=(c.steps++[_]).map _;rw[Ug,v];congr 1;unfold pP;rw[Tq (by omega),UL];have I:a.getD (c.XF*20+(n-65)) 0=aw S (c.XW.getD (c.XF*20+(n-65)) 0):=by
      rw[q,Tn,Tn,T0,Tm C];rfl
     rw[I];rfl
    ·by_cases H:c.XF*20+(n-65)-c.XW.length<c.XL.length
     ·have m:fk c (n-64) p=(0,{ dO { c with XF:=0 } ⟨3,c.XL.getD (c.XF*20+(n-65)-c.XW.length) 0,p⟩ with behind:=true }):=(by unfold fk;rw[j,To C,Tq H]);rw[Tq (by rw[y,l];omega)]at k;rw[k,To (by omega),m,Tq (by rfl)];refine A _ _ _ _ _ _ ⟨?_,l,q,rfl,(fun x z=>by rw[nr]at z;cases z),TG (by rw[nr];rfl),fun _=>nr⟩;show _=(c.steps++[_]).map _;rw[Ug,v];congr 1;unfold pP;rw[To (by omega),y,l,show c.XF*20+(n-65)+1-c.XW.length-1=c.XF*20+(n-65)-c.XW.length by omega];rfl
     ·have m:fk c (n-64) p=(5,{ c with XF:=0 }):=(by unfold fk;rw[j,To C,To H]);rw[To (by rw[y,l];omega)]at k;rw[k,Tq rfl,m,To (by simp)];rfl
   ·have m:fk c (n-64) p=(5,{ c with XF:=0 }):=(by unfold fk;rw[j,To (by omega),To (by omega)]);rw[To (by rw[y,l];omega)]at k;rw[k,Tq rfl,m,To (by simp)];rfl
  rw[To (by omega)]
  show(if(n:Int)=90/\t=true then _ else _)=_
  by_cases o:n=90/\c.behind=true
  ·have e:bI c n p=(0,{ c with XL:=c.XL++[c.steps.length-1],behind:=false }):=(by unfold bI;rw[To g,To u,Tq o]);rw[Tq ⟨by omega,by rw[G];exact o.2⟩,e,Tq (by rfl)];refine A _ _ _ _ _ _ ⟨v,?_,q,rfl,E.dg,TG ?_,fun h=>by cases h⟩
   ·rw[l,v,TR]
   ·show c.XF=_;have F:=E.no o.2;rw[E.zero.2 F,F];rfl
  rw[To (fun h=>o ⟨by have:=h.1;omega,by rw[<-G];exact h.2⟩)]
  show(if(n:Int)=63/\(d.toList == [])=true then _ else _)=_
  by_cases B:n=63/\c.XF=0
  ·have e:bI c n p=(0,dO c ⟨1,0,p⟩):=(by unfold bI;rw[To g,To u,To o,Tq B]);rw[Tq ⟨by omega,by rw[E.zero.1 B.2];rfl⟩,e,Tq (by rfl)];refine A _ _ _ _ _ _ ⟨?_,l,q,rfl,E.dg,E.wo,fun h=>by cases h⟩;show _=(c.steps++[_]).map _;rw[Ug,v];rfl
  ·have e:bI c n p=(4,c):=(by unfold bI;rw[To g,To u,To o,To B]);have J:¬((n:Int)=63/\(d.toList == [])=true):=fun h=>B ⟨by omega,E.zero.2 (by simpa using h.2)⟩;rw[To J,e,To (by simp)];rfl
def np(t:Tk):Pl:=⟨t.XY,t.XZ,t.X0⟩
def Sy(t:Tk):Xs×Pl:=(t.s,np t)
def jz(T:List Tk)(b z:Nat):List (Xs×Pl):=((T.drop b).take (z-b)).map Sy
theorem EF:(jz i N n).drop H=jz i (N+H) n:=by
 unfold jz;rw[<-List.map_drop,List.drop_take,List.drop_drop,show n-N-H=n-(N+H) by omega]
theorem yW(h:n<H)(a:H<=i.length):jz i n H=(tS i n,np (i.getD n gQ)) :: jz i (n+1) H:=by
 unfold jz;rw[TU (by omega),show H-n=(H-(n+1))+1 by omega,WP,Vm];congr 1;unfold Sy tS;rw[Tn,Tm (by omega)];rfl
theorem wW:jz i H H=[]:=by unfold jz;rw[Uy,VQ];rfl
theorem I9(a:H<=k.length):jz (k++i) n H=jz k n H:=by
 unfold jz;by_cases h:n<=k.length
 ·rw[UB h,UV (by rw[Uw];omega)]
 ·rw[show H-n=0 by omega,VQ,VQ]
theorem OC(a:H<=k.length):jz (k++[x]) H (k++[x]).length=jz k H k.length++[Sy x]:=by
 unfold jz;rw[UB a,Ve (by simp;omega),Ve (by rw[Uw];exact Tp _),Ug];rfl
structure sA(T:List Tk)(d:Db):Prop where
 ne:∀q,q<T.length->((tS T q).toList == [])=false
 til:∀(n:Nat) (s:St),d.XP[n]?=some s->oA s.XS=true->s.til=0
 pr:∀(n:Nat) (s:St),d.XP[n]?=some s->s.XS=5->s.XJ=jz T ((aq (aa T) (aw (aa T) n)).h+(bB T (aq (aa T) (aw (aa T) n)).h).length+1) ((aq (aa T) (aw (aa T) n)).z-1)/\s.XX=np (T.getD ((aq (aa T) (aw (aa T) n)).z-1) gQ)
 op:d.XJ=if d.XC=true then jz T ((ee T (fA T)).2+d.Xy.length+1) T.length else []
section
variable {T:List Tk} {t:Tk} {d d':Db}
theorem Sq(B:Xt)(h:aK B ⟨#[36,61]⟩=true):(B.takeWhile jy).length<B.length:=by
 induction B with
 | nil=>cases h
 | cons x r c =>
  cases e:jy x
  ·rw[Vs (by rw[e];simp)];simp
  ·rw[Vb e];have b:aK r ⟨#[36,61]⟩=true:=by
    unfold aK at h ⊢;rw[VO,Uk]at h;rcases h with h | h
    ·exfalso
     have a:x.toList=(⟨#[36,61]⟩:Xs).toList:=(by simpa using h);unfold jy at e;rw[a]at e;exact absurd e (by decide +kernel)
    ·exact h
   have:=c b;simp only[List.length_cons];omega
theorem sA.old(Q:sA T d)(R:gy T d){M:List Sm}{a:St}(f:d.XP[b]?=some m)(e:aw (aa T++M) b=aw (aa T) b)(g:a.XS=m.XS)(i:a.XJ=m.XJ)(j:a.XX=m.XX)(l:a.XS=5) :
  a.XJ=jz (T++[t]) ((aq (aa T++M) (aw (aa T++M) b)).h+(bB (T++[t]) (aq (aa T++M) (aw (aa T++M) b)).h).length+1) ((aq (aa T++M) (aw (aa T++M) b)).z-1)/\a.XX=np ((T++[t]).getD ((aq (aa T++M) (aw (aa T++M) b)).z-1) gQ):=by
 have o:=(Tz.1 f).1;have c:=R.hel.at_ o;obtain⟨p,q⟩:=Q.pr b m f (by rw[<-g];exact l);obtain⟨-,-,-,k⟩:=R.ct b m f;obtain⟨P,r⟩:=(dN T).s _ c;have n:=P.lt;rw[e,jI _ _ _ c,i,j,qx T [t] _ k,I9 T [t] _ _ (by omega),p,q];refine⟨rfl,?_⟩;rw[Tn,Tn,TP (by omega)]
theorem sA.nes(Q:sA T d)(b:(t.s.toList == [])=false):∀q,q<(T++[t]).length->((tS (T++[t]) q).toList == [])=false:=fun q a=>by
 by_cases h:q<T.length
 ·rw[fX T [t] q h];exact Q.ne q h
 ·rw[Tu,V7]at a;rw[show q=T.length by omega,oj];exact b
theorem sA.XD(Q:sA T d)(R:gy T d)(j:(t.s.toList == [])=false)(g:cd t.s=false)(c:d'.XP=d.XP)(b:d'.XJ=if d'.XC=true then jz (T++[t]) ((ee (T++[t]) (fA T)).2+d'.Xy.length+1) (T++[t]).length else []):sA (T++[t]) d':=by
 obtain⟨e,f⟩:=lW (T:=T) (t:=t) g;refine⟨Q.nes j,fun n s a=>?_,fun n s a i=>?_,by rw[f];exact b⟩
 ·rw[c]at a;exact Q.til n s a
 ·rw[c]at a;have:=Q.old (t:=t) R (M:=[]) a (by rw[TV]) rfl rfl rfl i;rw[TV]at this;rw[e];exact this
theorem sA.other(Q:sA T d)(R:gy T d)(q:(t.s.toList == [])=false)(j:Sm)(o:aa (T++[t])=aa T++[j])(b:∀(n:Nat) (c:St),d'.XP[n]?=some c->∃s,d.XP[n]?=some s/\c.XS=s.XS/\c.XJ=s.XJ/\c.XX=s.XX/\(oA s.XS=true->c.til=s.til))(a:d'.XJ=[]/\d'.XC=false):sA (T++[t]) d':=by
 refine⟨Q.nes q,fun n s i g=>?_,fun n s i p=>?_,by rw[a.1,a.2];rfl⟩
 ·obtain⟨u,e,f,-,-,m⟩:=b n s i;rw[f]at g;rw[m g];exact Q.til n u e g
 ·obtain⟨u,e,f,k,l,-⟩:=b n s i;rw[o];exact Q.old R e (R.hel.ix j (Tz.1 e).1) f k l p
theorem sA.first(Q:sA T d)(R:gy T d)(f:(t.s.toList == [])=false)(x:fA T=T.length)(b:d.XC=false)(a:(ay d t.s).1=0):sA (T++[t]) (ay d t.s).2:=by
 have r:d.XJ=[]:=by rw[Q.op,b];rfl
 have i:d.XJ=if d.XC=true then jz (T++[t]) ((ee (T++[t]) (fA T)).2+d.Xy.length+1) (T++[t]).length else []:=by rw[r,b];rfl
 have e:∀(n:Nat) (c:St),d.XP[n]?=some c->∃s,d.XP[n]?=some s/\c.XS=s.XS/\c.XJ=s.XJ/\c.XX=s.XX/\(oA s.XS=true->c.til=s.til):=fun n c h=>⟨c,h,rfl,rfl,rfl,fun _=>rfl⟩
 unfold ay at *;by_cases k:(t.s.toList == [36,123])=true
 ·rw[Tq k];obtain⟨j,-⟩:=nz (T:=T) (t:=t) x (by rw[(jV (dr k)).2.2];decide);exact Q.other R f _ j e ⟨r,b⟩
 rw[To k]at a ⊢;by_cases l:(t.s.toList == [36,125])=true
 ·rw[Tq l]at a ⊢;cases A:d.XV.getLast? with
  | none=>rw[A]at a;cases a
  | some q =>
   simp only;obtain⟨j,-⟩:=nz (T:=T) (t:=t) x (by rw[(jV (dr l)).2.2];decide);refine Q.other R f _ j (fun n c g=>?_) (by unfold cQ dw;split <;> exact⟨r,b⟩);unfold cQ dw at g;split at g
   ·exact e n c g
   ·obtain⟨v,B,C⟩:=oQ g;refine⟨v,B,?_⟩;rw[C];split
    ·unfold lJ;split
     ·next h=>exact⟨rfl,rfl,rfl,fun w=>by rw[h.2]at w;cases w⟩
     ·exact⟨rfl,rfl,rfl,fun _=>rfl⟩
    ·exact⟨rfl,rfl,rfl,fun _=>rfl⟩
 rw[To l]at a ⊢;by_cases m:(t.s.toList == [36,99])=true
 ·rw[Tq m]at a ⊢;by_cases y:0<d.XV.length
  ·rw[Tq y]at a;cases a
  ·rw[To y];exact Q.XD R f (fO m (by decide)) rfl i
 rw[To m]at a ⊢;by_cases o:(t.s.toList == [36,118])=true
 ·rw[Tq o];exact Q.XD R f (fO o (by decide)) rfl i
 rw[To o]at a ⊢;by_cases p:(t.s.toList == [36,100])=true
 ·rw[Tq p];exact Q.XD R f (fO p (by decide)) rfl i
 rw[To p]at a ⊢;split at a
 ·cases a
 ·next z =>
  rw[To z];unfold bU at *;cases u:dC t.s
  ·rw[u,To (by simp)]at a;split at a
   ·cases a
   ·next D =>
    split at a
    ·cases a
    ·next E =>
     rw[To (by simp),To D,To E];exact Q.XD R f (rt u) rfl i
  ·rw[u,Tq rfl]at a;cases a
theorem sA.key(Q:sA T d)(R:gy T d)(c:(t.s.toList == [])=false)(b:d.XC=false)(a:(aJ d t.s).1=0):sA (T++[t]) (aJ d t.s).2:=by
 have k:d.XJ=[]:=by rw[Q.op,b];rfl
 have e:d.XJ=if d.XC=true then jz (T++[t]) ((ee (T++[t]) (fA T)).2+d.Xy.length+1) (T++[t]).length else []:=by rw[k,b];rfl
 unfold aJ at *;split
 ·next h=>exact Q.XD R c (fO h (by decide)) rfl e
 ·next f =>
  rw[To f]at a;split
  ·next h=>exact Q.XD R c (fO h (by decide)) rfl e
  ·next g =>
   rw[To g]at a;split
   ·next h=>exact Q.XD R c (fO h (by decide)) rfl e
   ·next i =>
    rw[To i]at a;split
    ·next h=>exact Q.XD R c (fO h (by decide)) rfl e
    ·next j=>rw[To j]at a;cases a
theorem sA.body(Q:sA T d)(R:gy T d)(x:(t.s.toList == [])=false){B:Xt}(I:ee T (fA T)=(r,b))(w:fA T<b)(G:b<=T.length)(C:fm r.toList d.XS)(N:eF T b T.length=B)(p:d.XC=aK B ⟨#[36,61]⟩)(m:d.Xy=B.takeWhile jy)(c:(aZ d t.s (np t)).1=0):sA (T++[t]) (aZ d t.s (np t)).2:=by
 have v:(ee (T++[t]) (fA T)).2=b:=by rw[oV I w G C]
 have f:=Q.op;rw[I]at f;simp only at f;have E:B.length=T.length-b:=by rw[<-N,ma,TR,Uw]
 have F:d.XC=true->b+d.Xy.length+1<=T.length:=fun h=>by
  have:=Sq B (by rw[<-p];exact h);rw[<-m]at this;omega
 rw[pi C]at *;by_cases z:(t.s.toList == [36,46])=true
 ·rw[Tq z]at *;obtain⟨U,-⟩:=Bx z;obtain⟨y,-⟩:=nU T t;rw[Tq U,oV I w G C]at y;simp only at y;have l:bB (T++[t]) b=d.Xy:=by
   unfold bB;rw[UB G,tI _ t (fun u V=>?_) z,m,<-N,ma];have:=vo T b (by omega) u V;unfold cd at this;simp only[Bool.or_eq_false_iff]at this;exact this.1.1
  unfold mt at *;split at c
  ·cases c
  ·next P =>
   rw[To P];split at c
   ·cases c
   ·next k =>
    rw[To k];simp only;cases a:((d.XS==7)||(d.XS==8))
    ·simp only[Bool.or_eq_false_iff]at a;have D:(aX d (np t)).XP=d.XP++[⟨d.XS,d.XU,d.Xy,d.XJ,np t,0⟩]:=by
      unfold aX nF nW;rw[a.1,a.2];simp only[Bool.false_eq_true,if_false];split <;> rfl
     have L:kE (aa T++[(⟨fA T,T.length+1,b,r⟩:Sm)]) (aa T).length=true:=(by rw[t7];show _=true;rw[Dn C,a.1,a.2];rfl);have M:∀{n:Nat} {s:St},(aX d (np t)).XP[n]?=some s->d.XP[n]?=some s∨(n=d.XP.length/\s=⟨d.XS,d.XU,d.Xy,d.XJ,np t,0⟩):=fun {n s} i=>by
      rw[D]at i;by_cases J:n<d.XP.length
      ·rw[TP J]at i;exact TG i
      ·have e:n=d.XP.length:=by
        have:=(Tz.1 i).1;rw[Tu,V7]at this;omega
       subst e;rw[TI (Tp _),Uy]at i;exact TA ⟨rfl,(UP i).symm⟩
     refine⟨Q.nes x,fun n s i S=>?_,fun n s i j=>?_,rfl⟩
     ·rcases M i with h | ⟨-,h⟩
      ·exact Q.til n s h S
      ·rw[h]
     ·rw[y];rcases M i with h | ⟨J,h⟩
      ·exact Q.old R h (R.hel.ix _ (Tz.1 h).1) rfl rfl rfl j
      ·subst J;have O:aw (aa T++[(⟨fA T,T.length+1,b,r⟩:Sm)]) d.XP.length=(aa T).length:=by
        unfold aw;rw[nB,Tq L,R.hel.len,Tn,TI (Tp _),Uy];rfl
       rw[O,lu];simp only;rw[h]at j ⊢;simp only at j ⊢;have H:d.XC=true:=by
        cases e:d.XC
        ·exact absurd ⟨by rw[j];rfl,e⟩ k
        ·rfl
       rw[l,UL,I9 T [t] _ _ (Tp _),f,H,Tq rfl];refine⟨rfl,?_⟩;rw[Tn,TI (Tp _),Uy];rfl
    ·have D:(aX d (np t)).XP=d.XP:=by
      unfold aX eD;rw[Uk]at a;split
      ·rfl
      ·next q=>rw[Tq (a.resolve_left q)]
     exact Q.other R x _ y (fun n W h=>⟨W,by rw[<-D];exact h,rfl,rfl,rfl,fun _=>rfl⟩) ⟨rfl,rfl⟩
 ·rw[To z]at *;by_cases o:(t.s.toList == [36,61])=true/\(d.XS==5)=true/\d.XC=false
  ·rw[Tq o]at *;unfold cv at *;split at c
   ·cases c
   ·next g =>
    rw[To g];refine Q.XD R x (fO o.1 (by decide)) rfl ?_;show d.XJ=if true=true then _ else _;rw[Tq rfl,f,o.2.2,To (by simp),v];have K:aK B ⟨#[36,61]⟩=false:=by rw[<-p];exact o.2.2
    have:d.Xy.length=T.length-b:=(by rw[m,tY B K,E]);show _=jz (T++[t]) (b+d.Xy.length+1) (T++[t]).length;rw[this,Tu,V7,show b+(T.length-b)+1=T.length+1 by omega,wW]
  ·rw[To o]at *;cases A:dC t.s
   ·rw[A,To (by simp)]at c;rw[To (by simp)];split at c
    ·next g =>
     rw[Tq g];refine Q.XD R x (rt A) rfl ?_;show d.XJ++[(t.s,np t)]=if d.XC=true then _ else _;rw[f,Tq g,Tq g,v];exact(OC T t _ (F g)).symm
    ·next g =>
     rw[To g];split at c
     ·next k =>
      rw[Tq k];refine Q.XD R x (rt A) rfl ?_;show d.XJ=if d.XC=true then _ else _;rw[f,To g,To g]
     ·next k=>simp only at c;rw[c]at k;exact absurd rfl k
   ·rw[A,Tq rfl]at c;cases c
theorem sA.step(Q:sA T d)(m:uK T d)(R:gy T d)(i:(t.s.toList == [])=false)(c:(aZ d t.s (np t)).1=0):sA (T++[t]) (aZ d t.s (np t)).2:=by
 rcases m with ⟨k,f,b,a,l⟩ | ⟨k,f,b,a,l,r,q⟩ | ⟨v,j,B,f,g,p,o,n,a,b,u,l,w⟩
 ·have e:aZ d t.s (np t)=ay d t.s:=by unfold aZ;rw[f];rfl
  rw[e]at c ⊢;exact Q.first R i k a c
 ·have e:aZ d t.s (np t)=aJ d t.s:=by unfold aZ;rw[f];rfl
  rw[e]at c ⊢;exact Q.key R i a c
 ·exact Q.body R i f g p o n a b c
end
theorem Rq(h:z0=⟨[],[],[],[],[],[],[],[],0,⟨#[]⟩,[],false,[]⟩):sA [] z0:=by
 subst h;exact⟨fun q a=>(by simp at a),(fun n s h=>by cases h),(fun n s h=>by cases h),rfl⟩
section
variable {T:List Tk} {t:Tk} {d:Db}
structure rL(T:List Tk)(d:Db):Prop where
 e:tx T (aa T) d
 o:uK T d
 u:∀j,j<T.length->aY T (aa T) j=0
 b:jY T=(d.XV.length:Int)
 r:gy T d
 f:rV d
 p:sA T d
theorem CU(T:List Tk)(t:Tk):jY (T++[t])=aR (jY T) t.s:=by
 unfold jY;rw[Vo];rfl
theorem rL.step(I:rL T d)(m:T.length<=100000)(F:(t.s.toList == [])=false)(p:Pl)(J:p=np t):aY (T++[t]) (aa (T++[t])) T.length=(aZ d t.s p).1/\((aZ d t.s p).1=0->rL (T++[t]) (aZ d t.s p).2):=by
 obtain⟨z,q⟩:=BD T m I.u;have v:=CI T t m I.u;have g:aY (T++[t]) (aa (T++[t])) T.length=(aZ d t.s p).1/\((aZ d t.s p).1=0->tx (T++[t]) (aa (T++[t])) (aZ d t.s p).2/\uK (T++[t]) (aZ d t.s p).2):=by
  rcases I.o with ⟨n,i,c,a,k⟩ | ⟨n,i,c,a,k,x,w⟩ | ⟨g,D,B,i,l,E,C,A,a,c,y,k,G⟩
  ·have e:aZ d t.s p=ay d t.s:=(by unfold aZ;rw[i];rfl);rw[v,Tq n.symm,e];exact Gw z q I.e n i c a k F
  ·have e:aZ d t.s p=aJ d t.s:=(by unfold aZ;rw[i];rfl);obtain⟨M,N⟩:=N8 (t:=t) z q I.e n c a k x w;rw[v,To (by omega),M,Tq (by simp),e];exact N
  ·rw[v,To (by omega),oV i l E C,To (by simp only;omega)];simp only;rw[A];exact Ll z q I.e i l E C A a c y k G p
 refine⟨g.1,fun h=>?_⟩;obtain⟨K,L⟩:=g.2 h;refine⟨K,L,fun j H=>?_,?_,gy.step I.o I.e I.u I.r m p h,rV.step I.o I.e I.r I.f p h,by rw[J]at h ⊢;exact I.p.step I.o I.r F h⟩
 ·rw[Tu,Ui,Up]at H;by_cases e:j<T.length
  ·exact sH T [t] m I.u j e
  ·have e:j=T.length:=(by omega);rw[e,g.1];exact h
 ·rw[CU,I.b,Eo I.o t.s p h]
theorem IA(T:List Tk)(h:0<T.length):∃u,T.getLast?=some u/\u.s=tS T (T.length-1):=by
 rw[Vt,Tm (by omega)];refine⟨_,rfl,?_⟩;unfold tS;rw[Tn,Tm (by omega)];rfl
theorem rL.open(I:rL T d):lL d=!dG T:=by
 have p:=dN T;have t:=I.b;have a:fA T<T.length->dG T=false:=fun h=>by
  obtain⟨u,i,j⟩:=IA T (by omega);have:=p.n (T.length-1) (by unfold fA at h;omega) (by omega);unfold dG;rw[i];simp only;rw[j,this];rfl
 unfold lL;rcases I.o with ⟨D,g,f,c,x⟩ | ⟨D,g,f,c,x,H,G⟩ | ⟨r,w,B,g,E,M,m,L,c,f,J,x,K⟩
 ·rw[g];have y:(bne (0:Int) 0)=false:=rfl;rw[y,UM];by_cases C:T.length=0
  ·have e:T=[]:=Ue C;rw[e]at t ⊢;have:d.XV.length=0:=by
    have h:jY []=0:=rfl;omega
   rw[this];rfl
  ·obtain⟨u,i,j⟩:=IA T (by omega);have F:0<(aa T).length:=by
    rcases Nat.eq_zero_or_pos (aa T).length with h | h
    ·have:=FR T;rw[h]at this;unfold kZ at this;rw[To (by omega)]at this;omega
    ·exact h
   have q:(aq (aa T) ((aa T).length-1)).z=T.length:=by
    have:=FR T;unfold kZ at this;rw[Tq F]at this;omega
   have v:=(p.s ((aa T).length-1) (by omega)).1.e;rw[q]at v;unfold dG;rw[i];simp only;rw[j,v,U5,t];by_cases q:d.XV.length=0
   ·rw[q];rfl
   ·have A:((d.XV.length:Int)==0)=false:=Xn (by omega);rw[A,UQ (show 0<d.XV.length by omega)];rfl
 ·rw[g,a (by omega)];rfl
 ·rw[a (by omega)];have:(d.XS != 0)=true:=by
   generalize d.XS=k at m ⊢;generalize r.toList=l at m
   (rcases m with ⟨rfl,rfl⟩ | ⟨rfl,rfl⟩ | ⟨rfl,rfl⟩ | ⟨rfl,rfl⟩ | ⟨rfl,rfl⟩ | ⟨rfl,rfl⟩ | ⟨rfl,rfl⟩) <;> rfl
  rw[this];rfl
theorem MW{d:Db}(h:d=⟨[],[],[],[],[],[],[],[],0,⟨#[]⟩,[],false,[]⟩):rL [] d:=by
 subst h;refine⟨⟨rfl,fun x=>rfl,⟨rfl,rfl,fun i a=>(by simp at a)⟩,⟨rfl,rfl,fun i a=>(by simp at a)⟩⟩,uK.none rfl rfl rfl rfl rfl,fun j b=>(by simp at b),rfl,⟨oq.nil,(fun n s h=>by cases h),rfl⟩,⟨(fun n s h=>by cases h),(fun n m s u h=>by cases h),fun h=>by cases h⟩,Rq rfl⟩
end
section
variable (rec:Nat->List Bool->List Tk->List Tk×List Bool) (fs:Fs)
theorem IM(t:Tk)(r:List Tk)(b:List Bool)(a:List Tk)(h:((t.X3==0)&&(t.s.toList == []))=true):cZ rec fs (t :: r) b a=((if dG a=true then a else a++[rY t 7]),b):=by
 rw[cZ.eq_def];exact Tq h
theorem yl(t:Tk)(r:List Tk)(b:List Bool)(a:List Tk)(h:((t.X3==0)&&(t.s.toList == []))=false)(c:(t.s.toList == [36,91])=false):cZ rec fs (t :: r) b a=cZ rec fs r b (a++[t]):=by
 rw[cZ.eq_def];simp only;rw[To (by rw[h];simp),Tq c]
theorem NL(t:Tk)(r:List Tk)(b:List Bool)(a:List Tk)(h:((t.X3==0)&&(t.s.toList == []))=false)(c:(t.s.toList == [36,91])=true)(d:dG a=false):cZ rec fs (t :: r) b a=(a++[rY t 4],b):=by
 rw[cZ.eq_def];simp only;rw[To (by rw[h];simp),To (by rw[c];simp),Tq d]
theorem IN(t a:Tk)(c:List Bool)(b:List Tk)(h:((t.X3==0)&&(t.s.toList == []))=false)(d:(t.s.toList == [36,91])=true)(e:dG b=true):cZ rec fs [t,a] c b=(b++[rY a (dJ fs a.s a.X3)],c):=by
 rw[cZ.eq_def];simp only;rw[To (by rw[h];simp),To (by rw[d];simp),To (by rw[e];simp)]
theorem Tl(t a b:Tk)(r:List Tk)(d:List Bool)(c:List Tk)(h:((t.X3==0)&&(t.s.toList == []))=false)(e:(t.s.toList == [36,91])=true)(f:dG c=true):cZ rec fs (t :: a :: b :: r) d c =
  if(dJ fs a.s a.X3==0)=false then(c++[rY a (dJ fs a.s a.X3)],d)
  else if(eB b.s b.X3==0)=false then(c++[rY b (eB b.s b.X3)],d)
  else if d.getD (bS fs a.s).toNat true=true then cZ rec fs r d c
  else if fj (rec (bS fs a.s).toNat d c).1=true then rec (bS fs a.s).toNat d c
  else cZ rec fs r (rec (bS fs a.s).toNat d c).2 (rec (bS fs a.s).toNat d c).1:=by
 rw[cZ.eq_def];simp only;rw[To (by rw[h];simp),To (by rw[e];simp),To (by rw[f];simp)]
theorem BJ(g:∀j d c,∃V,(rec j d c).1=c++V)(n:Nat):∀L,L.length<=n->∀d c,∃V,(cZ rec fs L d c).1=c++V:=by
 induction n with
 | zero =>
  intro L f d c;have:L=[]:=Ue (by omega);subst this;exact⟨[],by rw[cZ.eq_def];simp⟩
 | succ n m =>
  intro L f d c;cases L with
  | nil=>exact⟨[],by rw[cZ.eq_def];simp⟩
  | cons t r =>
   simp only[List.length_cons]at f;cases h:((t.X3==0)&&(t.s.toList == []))
   ·cases e:(t.s.toList == [36,91])
    ·rw[yl rec fs t r d c h e];obtain⟨V,k⟩:=m r (by omega) d (c++[t]);exact⟨t :: V,by rw[k];simp⟩
    ·cases i:dG c
     ·rw[NL rec fs t r d c h e i];exact⟨_,rfl⟩
     ·match r,f with
      | [],_ =>
       refine⟨[],?_⟩;rw[cZ.eq_def];simp only;rw[To (by rw[h];simp),To (by rw[e];simp),To (by rw[i];simp)];simp
      | [a],_=>rw[IN rec fs t a d c h e i];exact⟨_,rfl⟩
      | a :: b :: r',f =>
       simp only[List.length_cons]at f;rw[Tl rec fs t a b r' d c h e i];split
       ·exact⟨_,rfl⟩
       ·split
        ·exact⟨_,rfl⟩
        ·split
         ·exact m r' (by omega) d c
         ·obtain⟨V,k⟩:=g (bS fs a.s).toNat d c;split
          ·exact⟨V,k⟩
          ·obtain⟨o,l⟩:=m r' (by omega) (rec (bS fs a.s).toNat d c).2 (rec (bS fs a.s).toNat d c).1;exact⟨V++o,by rw[l,k];simp⟩
   ·rw[IM rec fs t r d c h];simp only;split
    ·exact⟨[],by simp⟩
    ·exact⟨_,rfl⟩
end
theorem vq(n:Nat):∀j b a,∃V,(eS w n j b a).1=a++V:=by
 induction n with
 | zero=>intro j b a;exact⟨[],by simp[eS]⟩
 | succ n c=>intro j b a;rw[eS];exact BJ (eS w n) w c _ _ (Tp _) _ _
def Jb(L:List Tk):Prop:=∀t∈L,t.X3=0
structure QN(fs:Fs)(bg sn:List Bool):Prop where
 b:bg.length=4
 s:sn.length=fs.length
 e:∀j,j<fs.length->bg.getD j true=sn.getD j true
theorem QN.set{a c:List Bool}(h:QN u a c)(d:u.length<=4)(k:Nat)(g:k<u.length):QN u (a.set k true) (c.set k true):=by
 refine⟨by rw[Ul];exact h.b,by rw[Ul];exact h.s,fun j f=>?_⟩;have:=h.b;have:=h.s;rw[Tn,Tn,Uz,Uz];by_cases e:k=j
 ·rw[Tq e,Tq e,Tq (by omega),Tq (by omega)]
 ·rw[To e,To e];have:=h.e j f;rw[Tn,Tn]at this;exact this
def rM(fs:Fs)(N:Nat)(res:G6)(R:List Tk×List Bool):Prop :=
 (res.1=cY/\rL R.1 res.2.2/\Jb R.1/\QN fs res.2.1 R.2/\R.1.length+1025*aV R.2<=N) ∨
 (∃(W:List Tk) (u:Tk) (d:Db),R.1=W++[u]/\(u.X3==0)=false/\rL W d/\Jb W/\res.1=(u.X3,np u)) ∨
 ∃(W:List Tk) (t:Tk) (V:List Tk) (d:Db) (r:Int),R.1=W++t :: V/\t.X3=0/\rL W d/\W.length+1<=N/\aY (W++[t]) (aa (W++[t])) W.length=r/\(r==0)=false/\res.1=(r,np t)
theorem rM.good(a:q.1=cY)(c:rL g.1 q.2.2)(d:Jb g.1)(e:QN u q.2.1 g.2)(f:g.1.length+1025*aV g.2<=b):rM u b q g:=TG ⟨a,c,d,e,f⟩
theorem rM.ends(a:g.1=k++[x])(c:(x.X3==0)=false)(d:rL k B)(e:Jb k)(f:q.1=(x.X3,np x)):rM u b q g:=TA (TG ⟨k,x,B,a,c,d,e,f⟩)
theorem rM.X3(a:g.1=k++x :: i)(c:x.X3=0)(d:rL k B)(e:k.length+1<=b)(f:aY (k++[x]) (aa (k++[x])) k.length=v)(j:(v==0)=false)(l:q.1=(v,np x)):rM u b q g:=TA (TA ⟨k,x,i,B,v,a,c,d,e,f,j,l⟩)
theorem zD(h:Jb z):fj z=false:=by
 unfold fj;cases e:z.getLast? with
 | none=>rfl
 | some t =>
  have:=h t (List.mem_of_getLast? e);simp[this]
theorem vm(k:Nat)(b:k<=f.size):(aM (aC f k).1=true->((aC f k).1.text.toList == [])=false/\(aC f k).1.X3=0)/\(aM (aC f k).1=false->(aC f k).1.text=⟨#[]⟩/\((aC f k).1.XX=true->(aC f k).1.X3=0)):=by
 have e:∀a k,k<=f.size->aM (ci f a k).1=false->(ci f a k).1.text=⟨#[]⟩/\((ci f a k).1.XX=true->(ci f a k).1.X3=0):=by
  intro a
  induction a with
  | zero=>intro k _ _;exact⟨rfl,fun h=>by cases h⟩
  | succ a i =>
   intro k b h;have d:=ik f k b;rw[ci]at h ⊢;split
   ·next g =>
    rw[Tq g]at h;split
    ·exact⟨rfl,fun h=>by cases h⟩
    ·next c =>
     rw[To c]at h;exact i _ d.2.1 h
   ·next g =>
    rw[To g]at h;split
    ·exact⟨rfl,fun h=>by cases h⟩
    ·next c =>
     rw[To c]at h;exact(uy f k b).2 h
 unfold aC
 suffices hs:∀a k,k<=f.size->(aM (dY f a k).1=true->((dY f a k).1.text.toList == [])=false/\(dY f a k).1.X3=0)/\(aM (dY f a k).1=false->(dY f a k).1.text=⟨#[]⟩/\((dY f a k).1.XX=true->(dY f a k).1.X3=0)) from hs _ _ b
 clear b k;intro a
 induction a with
 | zero=>intro k b;exact⟨fun h=>by simp[dY,aM]at h,fun _=>⟨rfl,fun _=>rfl⟩⟩
 | succ a i =>
  intro k b;have d:=ik f k b;have j:=jE f (bQ f k).2 d.2.1;rw[dY];split
  ·split
   ·exact i _ j.2
   ·next c =>
    refine⟨fun h=>absurd h c,fun h=>?_⟩;exact e _ _ d.2.1 h
  ·exact uy f k b
theorem Kf(h:(v==0)=false):dJ w y v=v:=by unfold dJ;exact Tq h
theorem Kg(h:v=0)(a:y=⟨#[]⟩):dJ w y v=7:=by
 subst h a;unfold dJ;rw[To (by simp),Tq pK]
theorem FI(h:v=0)(a:(y.toList == [])=false):dJ w y v=if dC y=true then 5 else if bS w y<0 then 6 else 0:=by
 subst h;unfold dJ;rw[To (by simp),To (by rw[a];simp),iO]
theorem E5(h:(v==0)=false):eB y v=v:=by unfold eB;exact Tq h
theorem E6(h:v=0)(a:y=⟨#[]⟩):eB y v=7:=by
 subst h a;unfold eB;rw[To (by simp),Tq pK]
theorem CL(h:v=0)(a:(y.toList == [])=false):eB y v=if(y.toList == [36,93])=false then 5 else 0:=by
 subst h;unfold eB;rw[To (by simp),To (by rw[a];simp)]
theorem NR(ax:w.length<=4)(aT:∀j,j<w.length->(ak w j).size<=1024)(f:Nat):∀n x k c y d b N,x<w.length->k<=(ak w x).size->QN w c y->aV y<=n ->
  ((ak w x).size-k+1)+1025*aV y<=f->rL b d->Jb b->b.length+((ak w x).size-k+1)+1025*aV y<=N->N<=100000 ->
  rM w N (bH w f x k c d) (cZ (eS w n) w (mM (aG w x) (ak w x) k) y b):=by
 induction f with
 | zero=>intro n x k c y d b N _ _ _ _ h;omega
 | succ f ih =>
  intro n x k c y d b N hx hk hS hn hf K T hN U;have hl:=go (ak w x) k hk;obtain⟨t1,t2⟩:=vm (ak w x) k hk;have C:=K.open;cases D:aM (aC (ak w x) k).1
  ·-- the XY ends,or a word's stead is taken
   obtain⟨x1,x2⟩:=t2 D;rw[kI _ _ k D];cases F:(aC (ak w x) k).1.XX
   ·have hr:((aC (ak w x) k).1.X3==0)=false:=kT D F;have P:((me (aG w x) (ak w x) (aC (ak w x) k).1).X3==0&&((me (aG w x) (ak w x) (aC (ak w x) k).1).s.toList == []))=false:=(by simp only[me];rw[hr];rfl);have e2:((me (aG w x) (ak w x) (aC (ak w x) k).1).s.toList == [36,91])=false:=(by simp only[me];rw[x1];decide +kernel);rw[yl _ _ _ _ _ _ P e2,xI w f x k c d D (by rw[F];simp)];refine rM.ends b _ d (by rw[cZ.eq_def]) hr K T ?_;simp[ju,F,me,np,lp]
   ·have P:((me (aG w x) (ak w x) (aC (ak w x) k).1).X3==0&&((me (aG w x) (ak w x) (aC (ak w x) k).1).s.toList == []))=true:=(by simp only[me];rw[x1,x2 F,pK];rfl);rw[IM _ _ _ _ _ _ P];cases Q:dG b
    ·rw[Q]at C;rw[xI w f x k c d D (by rw[C];simp)];refine rM.ends b (rY (me (aG w x) (ak w x) (aC (ak w x) k).1) 7) d (by simp) rfl K T ?_;simp[ju,F,me,np,lp,rY]
    ·rw[Q]at C;rw[Bl w f x k c d D F C];exact rM.good rfl (by simp only[if_true];exact K) (by simp only[if_true];exact T) hS (by simp only[if_true];omega)
  ·have az:=hl.2.2 D;obtain⟨x1,x2⟩:=t1 D;rw[kJ _ _ k hk D];have P:((me (aG w x) (ak w x) (aC (ak w x) k).1).X3==0&&((me (aG w x) (ak w x) (aC (ak w x) k).1).s.toList == []))=false:=(by simp only[me];rw[x1];simp);cases hi:((aC (ak w x) k).1.text.toList == [36,91])
   ·-- a word is taken
    rw[yl _ _ _ _ _ _ P (by exact hi)];have J:hZ w f x k c d=((if((aZ d (aC (ak w x) k).1.text (lp (aG w x) (ak w x) (aC (ak w x) k).1.pos)).1==0)=true then cY else((aZ d (aC (ak w x) k).1.text (lp (aG w x) (ak w x) (aC (ak w x) k).1.pos)).1,lp (aG w x) (ak w x) (aC (ak w x) k).1.pos),c,(aZ d (aC (ak w x) k).1.text (lp (aG w x) (ak w x) (aC (ak w x) k).1.pos)).2),(aC (ak w x) k).2):=by
     unfold hZ kp;rw[hi];simp
    obtain⟨g1,g2⟩:=K.step (t:=me (aG w x) (ak w x) (aC (ak w x) k).1) (by omega) x1 (lp (aG w x) (ak w x) (aC (ak w x) k).1.pos) rfl;have e3:(me (aG w x) (ak w x) (aC (ak w x) k).1).s=(aC (ak w x) k).1.text:=rfl;rw[e3]at g1 g2;cases h2:((aZ d (aC (ak w x) k).1.text (lp (aG w x) (ak w x) (aC (ak w x) k).1.pos)).1==0)
    ·rw[pC w f x k c d D (by rw[J,h2];simpa using h2),J,h2];obtain⟨V,hV⟩:=BJ (eS w n) w (vq w n) _ _ (Tp _) y (b++[me (aG w x) (ak w x) (aC (ak w x) k).1]);exact rM.X3 b (me (aG w x) (ak w x) (aC (ak w x) k).1) V d _ (by rw[hV];simp) x2 K (by omega) g1 h2 (by simp[me,np,lp])
    ·rw[zT w f x k c d D (by rw[J,h2];rfl),J];refine ih n x _ c y _ _ N hx hl.2.1 hS hn (by omega) (g2 (by simpa using h2)) ?_ (by simp;omega) U;intro u hu;rcases Uf.1 hu with hu | hu
     ·exact T u hu
     ·rw[TH.1 hu];exact x2
   ·-- an inclusion
    have J:hZ w f x k c d=od (cU w f) w x (aC (ak w x) k).2 (lp (aG w x) (ak w x) (aC (ak w x) k).1.pos) c d:=by
     unfold hZ kp;rw[hi,Tq rfl]
    have p:∀(W:List Tk) (u:Tk) (fl:pt),sO w x (aC (ak w x) k).2 (lp (aG w x) (ak w x) (aC (ak w x) k).1.pos) d=.inl fl->fl=(u.X3,np u)->(u.X3==0)=false->rM w N (bH w (f+1) x k c d) (b++[u],y):=fun W u fl af e h0=>by
     have e2:od (cU w f) w x (aC (ak w x) k).2 (lp (aG w x) (ak w x) (aC (ak w x) k).1.pos) c d=((fl,c,d),(aC (ak w x) k).2):=by
      unfold od;rw[af]
     rw[pC w f x k c d D (by rw[J,e2,e];exact h0),J,e2];exact rM.ends b u d rfl h0 K T e
    cases Q:dG b
    ·rw[Q]at C;rw[NL _ _ _ _ _ _ P (by exact hi) Q];exact p b (rY (me (aG w x) (ak w x) (aC (ak w x) k).1) 4) _ (by unfold sO;rw[Tq (by rw[C];rfl)];rfl) rfl rfl
    ·rw[Q]at C;have v:¬lL d=true:=(by rw[C];simp);obtain⟨z,hz⟩:∃z,z=(aC (ak w x) k).2:=⟨_,rfl⟩
     rw[<-hz]at hl az J p ⊢;have ha:=go (ak w x) z hl.2.1;obtain⟨a1,a2⟩:=vm (ak w x) z hl.2.1;cases g:aM (aC (ak w x) z).1
     ·obtain⟨y1,y2⟩:=a2 g;rw[kI _ _ z g,IN _ _ _ _ _ _ P (by exact hi) Q];have O:dJ w (me (aG w x) (ak w x) (aC (ak w x) z).1).s (me (aG w x) (ak w x) (aC (ak w x) z).1).X3=if(aC (ak w x) z).1.XX=true then 7 else(aC (ak w x) z).1.X3:=by
       cases B:(aC (ak w x) z).1.XX
       ·exact Kf w _ _ (kT g B)
       ·exact Kg w _ _ (y2 B) y1
      refine p b _ _ (by unfold sO;rw[To v,Tq g]) (by simp only[ju,rY,np];rw[O];rfl) ?_;simp only[rY];rw[O];cases B:(aC (ak w x) z).1.XX
      ·exact kT g B
      ·rfl
     ·have ap:=ha.2.2 g;obtain⟨y1,y2⟩:=a1 g;obtain⟨o,I⟩:∃o,o=(aC (ak w x) z).2:=⟨_,rfl⟩
      rw[kJ _ _ z hl.2.1 g,<-I];rw[<-I]at ha ap;have X:=go (ak w x) o ha.2.1;obtain⟨b1,b2⟩:=vm (ak w x) o ha.2.1;obtain⟨tl,Y⟩:∃tl,mM (aG w x) (ak w x) o=me (aG w x) (ak w x) (aC (ak w x) o).1 :: tl:=by
       cases i:aM (aC (ak w x) o).1
       ·exact⟨[],kI _ _ o i⟩
       ·exact⟨_,kJ _ _ o ha.2.1 i⟩
      rw[Y,Tl _ _ _ _ _ _ _ _ P (by exact hi) Q];have O:dJ w (me (aG w x) (ak w x) (aC (ak w x) z).1).s (me (aG w x) (ak w x) (aC (ak w x) z).1).X3=if dC (aC (ak w x) z).1.text=true then 5 else if bS w (aC (ak w x) z).1.text<0 then 6 else 0:=by
       exact FI w _ _ y2 y1
      rw[O];have av:(me (aG w x) (ak w x) (aC (ak w x) z).1).s=(aC (ak w x) z).1.text:=rfl;rw[av];cases H:dC (aC (ak w x) z).1.text
      ·by_cases E:bS w (aC (ak w x) z).1.text<0
       ·simp only[Bool.false_eq_true,if_false,if_pos E];rw[Tq (show((6:Int)==0)=false from rfl)];exact p b _ _ (by unfold sO;rw[To v,To (by rw[g];simp),To (by rw[H];simp),Tq E];rfl) rfl rfl
       ·simp only[Bool.false_eq_true,if_false,if_neg E];rw[To (show ¬((0:Int)==0)=false by decide)];have ar:eB (me (aG w x) (ak w x) (aC (ak w x) o).1).s (me (aG w x) (ak w x) (aC (ak w x) o).1).X3=if aM (aC (ak w x) o).1=false then(if(aC (ak w x) o).1.XX=true then 7 else(aC (ak w x) o).1.X3) else if((aC (ak w x) o).1.text.toList == [36,93])=false then 5 else 0:=by
         cases i:aM (aC (ak w x) o).1
         ·obtain⟨y3,y4⟩:=b2 i;rw[Tq rfl];cases B:(aC (ak w x) o).1.XX
          ·exact E5 _ _ (kT i B)
          ·exact E6 _ _ (y4 B) y3
         ·obtain⟨y3,y4⟩:=b1 i;rw[To (by simp)];exact CL _ _ y4 y3
        rw[ar];cases i:aM (aC (ak w x) o).1
        ·rw[Tq rfl];have ag:((if(aC (ak w x) o).1.XX=true then 7 else(aC (ak w x) o).1.X3)==0)=false:=by
          cases B:(aC (ak w x) o).1.XX
          ·exact kT i B
          ·rfl
         rw[Tq ag];exact p b _ _ (by unfold sO;rw[To v,To (by rw[g];simp),To (by rw[H];simp),To E,<-I,Tq i];rfl) rfl ag
        ·simp only[Bool.true_eq_false,if_false];cases ad:((aC (ak w x) o).1.text.toList == [36,93])
         ·rw[Tq rfl,Tq (show((5:Int)==0)=false from rfl)];exact p b _ _ (by unfold sO;rw[To v,To (by rw[g];simp),To (by rw[H];simp),To E,<-I,To (by rw[i];simp),Tq ad];rfl) rfl rfl
         ·simp only[Bool.true_eq_false,if_false];rw[To (show ¬((0:Int)==0)=false by decide)]
          -- the XY is named
          have a3:=X.2.2 i;have al:tl=mM (aG w x) (ak w x) (aC (ak w x) o).2:=by
           rw[kJ _ _ o ha.2.1 i]at Y;exact(Xx Y).2.symm
          rw[al];obtain⟨j,hj⟩:∃j,j=(bS w (aC (ak w x) z).1.text).toNat:=⟨_,rfl⟩
          have M:j<w.length:=by
           rcases qB (aC (ak w x) z).1.text w with h | ⟨q,hq,h⟩
           ·rw[h]at E;omega
           ·rw[hj,h,Uq];exact hq
          rw[<-hj];have l:hZ w f x k c d=(cU w f j c d,(aC (ak w x) o).2):=by
           rw[J];unfold od sO;rw[To v,To (by rw[g];simp),To (by rw[H];simp),To E,<-I,To (by rw[i];simp),To (by rw[ad];simp),<-hj]
          have G:=hS.e j M;cases L:c.getD j true
          ·rw[L]at G;have aS:y[j]?=some false:=by
            have:=hS.s;rw[Tm (by omega)];rw[Tn,Tm (by omega)]at G;exact congrArg some G.symm
           have a4:=l6 y j aS;rw[To (by rw[<-G];simp)];have A:cU w f j c d=bH w f j 0 (c.set j true) d:=(by unfold cU;rw[L,To (by simp)]);obtain⟨m,hm⟩:∃m,n=m+1:=⟨n-1,by omega⟩
           have er:eS w n j y b=cZ (eS w m) w (mM (aG w j) (ak w j) 0) (y.set j true) b:=(by rw[hm,eS,Ay]);have a0:=aT j M;have R1:=ih m j 0 (c.set j true) (y.set j true) d b (b.length+1025*aV y) M (Ub _) (hS.set ax j M) (by omega) (by omega) K T (by omega) (by omega);rw[<-er,<-A]at R1;have ai:=vq w n j y b;generalize eS w n j y b=S at *;rcases R1 with ⟨Z,R,r3,r4,r5⟩ | ⟨W,u,d0,Z,R,r3,r4,r5⟩ | ⟨W,t,V,d0,r,Z,R,r3,r4,r5,r6,r7⟩
           ·rw[zD r3,To (by simp),zT w f x k c d D (by rw[l,Z];rfl),l];have a5:aV S.2<=aV y:=by
             obtain⟨V,hV⟩:=ai;rw[hV,Tu]at r5;omega
            exact ih n x _ _ S.2 _ S.1 N hx X.2.1 r4 (by omega) (by simp only;omega) R r3 (by simp only;omega) U
           ·have ac:fj S.1=true:=(by unfold fj;rw[Z,VC];simp only;rw[R];rfl);rw[ac,Tq rfl,pC w f x k c d D (by rw[l,r5];exact R),l];exact rM.ends W u d0 Z R r3 r4 r5
           ·rw[pC w f x k c d D (by rw[l,r7];exact r6),l];cases ac:fj S.1
            ·rw[To (by simp)];obtain⟨V2,ao⟩:=BJ (eS w n) w (vq w n) _ (mM (aG w x) (ak w x) (aC (ak w x) o).2) (Tp _) S.2 S.1;exact rM.X3 W t (V++V2) d0 r (by rw[ao,Z];simp) R r3 (by omega) r5 r6 r7
            ·rw[Tq rfl];exact rM.X3 W t V d0 r Z R r3 (by omega) r5 r6 r7
          ·rw[L]at G;have A:cU w f j c d=(cY,c,d):=(by unfold cU;rw[L,Tq rfl]);rw[Tq G.symm,zT w f x k c d D (by rw[l,A];rfl),l,A];exact ih n x _ c y d b N hx X.2.1 hS hn (by omega) K T (by omega) U
      ·simp only[if_true];rw[Tq (show((5:Int)==0)=false from rfl)];exact p b _ _ (by unfold sO;rw[To v,To (by rw[g];simp),Tq H];rfl) rfl rfl
def MQ(t:Tk):pt:=(t.X3,np t)
def gi(fs:Fs)(k:Nat):pt :=
 if((zN (cM fs k).1 (aa (cM fs k).1)).X3==0)=false then MQ (zN (cM fs k).1 (aa (cM fs k).1)) else MQ (cM fs k).2
theorem Ii(h:rL z z0):zN z (aa z)=gQ:=QE h.u
theorem xx(k:w.length<=4)(p:∀j,j<w.length->(ak w j).size<=1024)(n:H<w.length) :
  (bE w H).1=gi w H/\(((bE w H).1.1==0)=true->rL (cM w H).1 (bE w H).2.2/\(cM w H).1.length<=10000):=by
 have i:QN w Hz (List.replicate w.length false):=⟨rfl,by simp,fun j l=>by
  rw[Tn,Tn,UO,Tq l]
  match j,(show j<4 by omega) with
  | 0,_=>rfl
  | 1,_=>rfl
  | 2,_=>rfl
  | 3,_=>rfl⟩
 have o:(List.replicate w.length false)[H]?=some false:=by rw[UO,Tq n]
 have z:=l6 _ H o;rw[nX]at z;have C:=p H n;have G:bE w H=bH w 5000 H 0 (Hz.set H true) fS:=by
  unfold bE cU;rw[i.e H n,Tn,o];rfl
 have I:eS w w.length H (List.replicate w.length false) []=cZ (eS w (w.length-1)) w (mM (aG w H) (ak w H) 0) ((List.replicate w.length false).set H true) []:=by
  obtain⟨m,K⟩:∃m,w.length=m+1:=⟨w.length-1,by omega⟩
  have:w.length-1=m:=by omega
  rw[this]
  conv=>lhs;rw[show eS w w.length=eS w (m+1) by rw[K]]
  rw[eS,Ay]
 have B:=NR w k p 5000 (w.length-1) H 0 (Hz.set H true) ((List.replicate w.length false).set H true) fS [] 5000 n (Ub _) (i.set k H n) (by omega) (by omega) (MW rfl) (fun t L=>by cases L) (by simp only[List.length_nil];omega) (by omega);rw[<-G,<-I]at B;have q:(eS w w.length H (List.replicate w.length false) []).1=qo w H:=rfl;generalize eS w w.length H (List.replicate w.length false) []=N at *;unfold gi cM;rcases B with ⟨b,d,f,D,g⟩ | ⟨W,u,F,b,d,f,D,g⟩ | ⟨W,t,V,F,r,b,d,f,D,g,A,E⟩
 ·rw[q]at d f g;simp only[zD f,Bool.false_eq_true,if_false];rw[Ii d,To (by decide)];exact⟨b,fun _=>⟨d,by omega⟩⟩
 ·rw[q]at b;have a:fj (qo w H)=true:=by unfold fj;rw[b,VC];simp only;rw[d];rfl
  rw[a,Tq rfl,b,List.dropLast_concat,VC];simp only[Option.getD_some];rw[Ii f,To (by decide)];exact⟨g,fun h=>by rw[g]at h;simp only at h;rw[d]at h;cases h⟩
 ·rw[q]at b;obtain⟨c,s⟩:∃c,(if fj (qo w H)=true then((qo w H).dropLast,(qo w H).getLast?.getD gQ) else(qo w H,gQ)).1=(W++[t])++c:=by
   cases a:fj (qo w H)
   ·rw[To (by simp)];exact⟨V,by simp only;rw[b];simp⟩
   ·rw[Tq rfl];cases V with
    | nil =>
     unfold fj at a;rw[b,VC]at a;simp only[d]at a;cases a
    | cons v V=>exact⟨(v :: V).dropLast,by simp only;rw[b,List.dropLast_append_of_ne_nil (by simp),List.dropLast_cons_of_ne_nil (by simp)];simp⟩
  rw[s];have M:=sH W (t :: c) (by omega) f.u;have x:=xk (W++[t]) c (by simp;omega) W.length (by simp) (fun j l=>sH W [t] (by omega) f.u j l);rw[g]at x
  have y:=MJ (T:=(W++[t])++c) (S:=aa ((W++[t])++c)) (k:=W.length) (by simp) (by rw[x];exact A) (fun j l=>by
   have:=M j l;rw[show W++t :: c=(W++[t])++c by simp]at this;exact this)
  have J:((W++[t])++c).getD W.length gQ=t:=by
   rw[Tn,U4,TI (Tp _),Uy];simp
  rw[y,x,J];simp only;rw[Tq A];exact⟨E,fun h=>by rw[E]at h;simp only at h;rw[A]at h;cases h⟩
theorem Jx:((aI y H).toNat:Int)=aI y H:=by
 unfold aI;split <;> simp
theorem PD:(xT (Sy x)).map Lw=tj x:=by
 unfold xT tj;rw[List.map_map];apply VG;intro j a
 show(⟨((aI x.s j).toNat:Int),x.XY,x.XZ,x.X0+j⟩:Lt)=⟨aI x.s j,x.XY,x.XZ,x.X0+j⟩
 rw[Jx]
theorem GN:((jz i n H).flatMap xT).map Lw=eO i n H:=by
 unfold jz eO;rw[List.map_flatMap,List.flatMap_map];congr 1
 funext t
 exact PD t
def R4(T:List Tk)(S:List Sm)(l:List St)(a A:Nat)(x:Xs):Prop:=(jG l x a=none/\dX T S A x<0)∨∃n,jG l x a=some n/\n<l.length/\dX T S A x=(aw S n:Nat)
section
variable {T:List Tk} {S:List Sm} {l:List St} {a A:Nat}
theorem Q3(f:∀i j,i<l.length->j<l.length->aw S i=aw S j->i=j){d:Xv}(c:∀b∈d,b<l.length)(g:b<l.length):jx d b=(d.map (aw S)).contains (aw S b):=by
 unfold jx;rw[UK,Us,VM,UF];constructor
 ·rintro ⟨y,a,e⟩;have e:y=b:=by simpa using e
  exact⟨y,a,by rw[e]⟩
 ·rintro ⟨y,a,e⟩;exact⟨y,a,by rw[f y b (c y a) g e];simp⟩
theorem Mu(y:∀x,(x.toList == [])=false->R4 T S l a A x)(w:∀q,q<T.length->((tS T q).toList == [])=false)(v:∀i j,i<l.length->j<l.length->aw S i=aw S j->i=j)(b z:Nat)(D:z<T.length)(m:Nat) :
  ∀k c,b+k+m=z->(∀n∈c,n<l.length) ->
  rU T S A z m (b+k) (c.map (aw S))=rd T S (mY (np (T.getD z gQ)) (Cr (b7 l a (np (T.getD z gQ)) k (jz T (b+k) z) c).1.2 ((jz T b z).drop (b7 l a (np (T.getD z gQ)) k (jz T (b+k) z) c).1.1) ⟨(b7 l a (np (T.getD z gQ)) k (jz T (b+k) z) c).2,[],[],0,false⟩)):=by
 induction m with
 | zero =>
  intro k c h f;rw[Vd]at h;rw[h,wW,b7,rU];rfl
 | succ m C =>
  intro k c h f;have s:=yW T (b+k) z (by omega) (by omega);by_cases e:((tS T (b+k)).toList == [41])=true
  ·have d:b7 l a (np (T.getD z gQ)) k (jz T (b+k) z) c=((k+1,cY),c):=(by rw[s,b7,Tq e]);rw[d,rU,Tq e];unfold j7;have o:EM (T.getD z gQ)=Lw (0,np (T.getD z gQ)):=rfl;have g:Cr cY ((jz T b z).drop (k+1)) ⟨c,[],[],0,false⟩=Bk ((jz T (b+k+1) z).flatMap xT) ⟨c,[],[],0,false⟩:=by
    unfold Cr;rw[Tq (by rfl),EF,AH,V5]
   simp only;rw[g,o,<-GN];exact Fz T S _ _ _ _ _ _ _ _ ⟨rfl,rfl,rfl,rfl,(fun x u=>by rw[nr]at u;cases u),TG (by rw[nr];rfl),fun _=>nr⟩
  ·rw[rU,To e];rcases y (tS T (b+k)) (w _ (by omega)) with ⟨r,o⟩ | ⟨n,r,t,o⟩
   ·have d:b7 l a (np (T.getD z gQ)) k (jz T (b+k) z) c=((0,(2,np (T.getD (b+k) gQ))),c):=(by rw[s,b7,To e,r]);rw[d,Tq o];rfl
   ·rw[o,To (by omega),Uq,<-Q3 v f t];by_cases g:jx c n=true
    ·have d:b7 l a (np (T.getD z gQ)) k (jz T (b+k) z) c=((0,(3,np (T.getD (b+k) gQ))),c):=(by rw[s,b7,To e,r];exact Tq g);rw[d,Tq g];rfl
    ·have d:b7 l a (np (T.getD z gQ)) k (jz T (b+k) z) c=b7 l a (np (T.getD z gQ)) (k+1) (jz T (b+k+1) z) (c++[n]):=(by rw[s,b7,To e,r];exact To g);have p:∀i∈c++[n],i<l.length:=fun i B=>by
      rcases Uf.1 B with h | h
      ·exact f i h
      ·rw[TH.1 h];exact t
     have:=C (k+1) (c++[n]) (by omega) p;rw[Ug,show b+(k+1)=b+k+1 by omega]at this;rw[d,To g];exact this
theorem PH(j:∀x,(x.toList == [])=false->R4 T S l a A x)(i:∀q,q<T.length->((tS T q).toList == [])=false)(z:Nat)(o:z<T.length)(m:Nat) :
  ∀b c,b+m=z->mq T S A z m b (c.map (rm T S))=rd T S (dM l a (np (T.getD z gQ)) (jz T b z) c):=by
 induction m with
 | zero =>
  intro b c h;rw[Vd]at h;rw[h,wW,dM,mq,TR];split <;> rfl
 | succ m g =>
  intro b c h;rw[yW T b z (by omega) (by omega),dM,mq];by_cases e:((tS T b).toList == [63])=true
  ·rw[Tq e,Tq e,<-g (b+1) (c++[(⟨1,0,np (T.getD b gQ)⟩:kC)]) (by omega),Ug];rfl
  ·rw[To e,To e];rcases j (tS T b) (i _ (by omega)) with ⟨d,f⟩ | ⟨n,d,k,f⟩
   ·rw[d,Tq f];rfl
   ·rw[d,f,To (by omega)];simp only;rw[<-g (b+1) (c++[(⟨2,n,np (T.getD b gQ)⟩:kC)]) (by omega),Ug];rfl
theorem JD(e:∀x,(x.toList == [])=false->R4 T S l a A x)(d:∀q,q<T.length->((tS T q).toList == [])=false)(s:∀i j,i<l.length->j<l.length->aw S i=aw S j->i=j)(r:(aP l a).map (aw S)=a9 T S A)(t:∀n∈aP l a,n<l.length)(v:b<o)(k:o<T.length)(f:((tS T o).toList == [36,46])=true)(c:m.XJ=jz T (b+1) o)(g:m.XX=np (T.getD o gQ)) :
  fB T S A b o=rd T S (dB l a m):=by
 unfold fB dB;have u:ve m=((tS T (b+1)).toList == [40]):=by
  unfold ve;rw[c];by_cases h:b+1<o
  ·rw[yW T (b+1) o h (by omega)]
  ·rw[show b+1=o by omega,wW];rw[cG f];decide
 rw[u];split
 ·next h =>
  have w:b+1<o:=by
   by_cases p:b+1<o
   ·exact p
   ·rw[show b+1=o by omega,cG f]at h;exact absurd h (by decide)
  unfold jR kO zK;rw[g,c,<-r,EF];exact Mu e d s (b+1) o k (o-(b+2)) 1 (aP l a) (by omega) t
 ·rw[g,c];exact PH e d o k _ (b+1) [] (by omega)
end
def yR(R:List St)(a:Nat)(vs:Xt)(k i j:Nat):Bool:=(List.range k).any (fun n=>tP R a n&&(bM vs (symsAt R n)).contains i&&(bM vs (symsAt R n)).contains j)
theorem Dx(a:Xv)(b:List Bool)(q:Nat)(c:q<b.length):(lj n H a b).getD q false=(b.getD q false||a.any (fun g=>H*n+g==q)):=by
 unfold lj
 induction a generalizing b with
 | nil=>simp
 | cons m a f =>
  simp only[List.foldl_cons,List.any_cons];rw[f (b.set (H*n+m) true) (by simpa using c)];by_cases e:H*n+m=q
  ·subst e;rw[Tn,List.getElem?_set_self c];simp
  ·have d:(H*n+m==q)=false:=(by rw[TT];exact e);rw[Tn,List.getElem?_set_ne e,<-Tn,d,UM]
theorem Dw(a r:Xv)(b:List Bool)(q:Nat)(d:q<b.length):(r.foldl (fun b c=>lj H c a b) b).getD q false=(b.getD q false||r.any (fun c=>a.any (fun f=>c*H+f==q))):=by
 induction r generalizing b with
 | nil=>simp
 | cons m r e =>
  simp only[List.foldl_cons,List.any_cons];rw[e (lj H m a b) (by rw[qL];exact d),Dx H m a b q d,V6]
theorem DH{j a c:Nat}(e:c<b)(f:j<b)(h:a*b+c=o*b+j):a=o/\c=j:=by
 have d:(a*b+c) / b=a:=by rw[Nat.mul_comm,Nat.mul_add_div (by omega)];rw[Nat.div_eq_of_lt e];omega
 have g:(o*b+j) / b=o:=by rw[Nat.mul_comm,Nat.mul_add_div (by omega)];rw[Nat.div_eq_of_lt f];omega
 rw[h]at d;have:a=o:=by omega
 subst this;exact⟨rfl,by omega⟩
theorem Kb(k i j:Nat)(n:i<L.length)(e:j<L.length):(dE I N L k).getD (i*L.length+j) false=yR I N L k i j:=by
 have f:i*L.length+j<L.length*L.length:=Au n e
 induction k with
 | zero =>
  unfold yR;rw[dE,Tn,UO,Tq f];rfl
 | succ k g =>
  have l:yR I N L (k+1) i j=(yR I N L k i j||(tP I N k&&(bM L (symsAt I k)).contains i&&(bM L (symsAt I k)).contains j)):=by
   unfold yR;rw[UT,Xo];simp
  rw[l,dE];cases p:tP I N k
  ·simp only[Bool.false_eq_true,if_false,Bool.false_and,Bool.or_false];exact g
  ·simp only[if_true,Bool.true_and];unfold mA;rw[Dw _ _ _ _ _ (by rw[mB];exact f),g];congr 1;rw[UK];simp only[List.any_eq_true,Bool.and_eq_true,List.contains_iff_mem,beq_iff_eq];constructor
   ·rintro ⟨q,c,r,b,m⟩;obtain⟨o,d⟩:=Ux b;have a:=uj L (symsAt I k) o d.1;rw[d.2]at a;obtain⟨rfl,rfl⟩:=DH a e m;exact⟨c,b⟩
   ·rintro ⟨c,b⟩;exact⟨i,c,j,b,rfl⟩
theorem Jj(a:n<L.length)(b:H<L.length):fG L.length (gK I N L) n H=(!(n==H)&&yR I N L I.length n H):=by
 unfold fG gK;rw[Kb I N L I.length n H a b]
def nS(l N:List St)(a:Nat):Xt:=((List.range N.length).filter (fun j=>Bg (l++N) a (l.length+j))).flatMap (symsAt N)
end Go.Proofs.YtnbhnocdhbcbcaaGreat
