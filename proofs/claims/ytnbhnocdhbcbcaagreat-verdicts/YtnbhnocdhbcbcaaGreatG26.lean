import Derived.Test.YtnbhnocdhbcbcaaGreatG13
import Derived.Test.YtnbhnocdhbcbcaaGreatG25
namespace Go.Proofs.YtnbhnocdhbcbcaaGreat
open Go.RowKit Tryz
open Value IntKind Ending
set_option maxHeartbeats 0
variable{p:List UInt8}{r:ByteArray}{b o:Nat}{m:St}{z0:Db}{u:Fs}{q:Gm}{g:List Tk×List Bool}{z:List Tk}(k:List Tk)(x:Tk)(i:List Tk)(B:Db)(w:Fs)(y:ByteArray)(v:Int)(I:List St)(N:Nat)(L:List ByteArray)(n H:Nat)(f:ByteArray)
theorem wb:(y++f).toList=y.toList++f.toList:=by
 rw[SM,SM,SM,ByteArray.data_append,Array.toList_append]
theorem mV:(⟨#[]⟩:ByteArray).toList=[]:=by rw[SM]
theorem Bd(u:UInt8):(⟨#[u]⟩:ByteArray).toList=[u]:=by rw[SM]
def kc(D:List UInt8):Nat:=D.foldl (fun v c=>v*5+(c.toNat-84)) 0
theorem sD(D:List UInt8)(c:UInt8):kc (D++[c])=kc D*5+(c.toNat-84):=by
 unfold kc;rw[Uj];rfl
def digs:Nat->Nat->List UInt8
 | 0,_=>[]
 | f+1,h=>if 0<h then digs f ((h-1) / 5)++[UInt8.ofNat (85+(h-1) % 5)] else []
theorem EL(f:Nat):∀h s,(vp f h s).toList=digs f h++s.toList:=by
 induction f with
 | zero=>intro h s;rfl
 | succ f a =>
  intro h s;rw[vp,digs];split
  ·rw[a,wb,EO,Bd,TM]
  ·rfl
theorem Gi(f:Nat):∀h,h<=f->kc (digs f h)=h:=by
 induction f with
 | zero=>intro h a;rw[show h=0 by omega];rfl
 | succ f b =>
  intro h a;rw[digs];split
  ·rw[sD,b _ (by omega),UInt8.toNat_ofNat'];omega
  ·rw[show h=0 by omega];rfl
def Im(D:List UInt8):Prop:=∀c∈D,85<=c.toNat/\c.toNat<=89
theorem wI(D:List UInt8):∀f,Im D->kc D<=f->digs f (kc D)=D:=by
 induction h:D.length generalizing D with
 | zero =>
  intro f _ _;rw[UI.1 h];cases f <;> rfl
 | succ n g =>
  intro f a b;obtain⟨E,c,rfl⟩:∃E c,D=E++[c]:=⟨D.dropLast,D.getLast (by intro e;rw[e]at h;simp at h),(UQ _).symm⟩
  have i:=a c (by simp);rw[sD]at b ⊢;cases f with
  | zero=>omega
  | succ f =>
   rw[digs,RY (by omega),show(kc E*5+(c.toNat-84)-1) / 5=kc E by omega,g E (by simpa using h) f (fun x d=>a x (by simp[d])) (by omega)];congr 1;rw[show 85+(kc E*5+(c.toNat-84)-1) % 5=c.toNat by omega,UInt8.ofNat_toNat]
theorem Gj(a:Im p):kc p=0 ↔ p=[]:=by
 constructor
 ·intro h;have:=wI p 0 a (by omega);rw[<-this];rfl
 ·rintro rfl;rfl
theorem Mz{c:UInt8}(j:r.toList=p++[c])(g:Im p)(k:65<=c.toNat/\c.toNat<=84)(i:Nat):xm r i=true ↔ i=kc p*20+(c.toNat-65):=by
 unfold xm mg;rw[T0,EL,j,Ot,Bd];constructor
 ·intro h;obtain⟨d,f⟩:=List.append_inj' h rfl;have e:=Gi (i+1) (i / 20) (by omega);rw[d]at e;have a:(UInt8.ofNat (65+i % 20)).toNat=c.toNat:=by rw[Wd f |>.1]
  rw[UInt8.toNat_ofNat']at a;omega
 ·intro h;have b:i / 20=kc p:=by omega
  have a:65+i % 20=c.toNat:=by omega
  rw[b,a,wI p _ g (by omega),UInt8.ofNat_toNat]
theorem JC{s:ByteArray}{D:List UInt8}{c:UInt8}(g:s.toList=D++[c])(e:Im D)(f:65<=c.toNat/\c.toNat<=84)(a:Nat):fV s a=if kc D*20+(c.toNat-65)<a then kc D*20+(c.toNat-65)+1 else 0:=by
 unfold fV;split
 ·next i h =>
  have j:=(Mz g e f i).1 (Uo h);have d:=Sd.1 (SU h);rw[j]at d ⊢;rw[RY d]
 ·next h =>
  rw[RU];intro b;rw[Tn]at h;exact h _ (Sd.2 b) ((Mz g e f _).2 rfl)
def rO(T:List Tk)(S:List Sm)(s:kK):cW :=
 if s.kind=1 then⟨-1,0,0,s.at_.file,s.at_.line,s.at_.col⟩
 else if s.kind=2 then⟨(av S s.Wf:Nat),0,gu T S (av S s.Wf:Nat),s.at_.file,s.at_.line,s.at_.col⟩
 else⟨-2,s.Wf,0,s.at_.file,s.at_.line,s.at_.col⟩
def qy(T:List Tk)(S:List Sm)(q:List kK×oL):jM:=⟨q.1.map (rO T S),q.2.1,q.2.2.file,q.2.2.line,q.2.2.col⟩
def Kx(x:Nat×Pl):Lt:=⟨(x.1:Int),x.2.file,x.2.line,x.2.col⟩
def xh(x:ByteArray×Pl):List (Nat×Pl):=(List.range x.1.size).map (fun j=>((aH x.1 j).toNat,{ x.2 with col:=x.2.col+j }))
def Au:List (Nat×Pl)->lj->oL×lj
 | [],c=>(cM,c)
 | x :: r,c=>if((bB c x.1 x.2).1==0)=true then Au r (bB c x.1 x.2).2 else(((bB c x.1 x.2).1,x.2),(bB c x.1 x.2).2)
theorem Ob(A B:List (Nat×Pl)):∀c,Au (A++B) c=if((Au A c).1.1==0)=true then Au B (Au A c).2 else Au A c:=by
 induction A with
 | nil=>intro c;rw[UP,Au,RY (by rfl)]
 | cons x r a =>
  intro c;rw[Ur,Au,Au];split
  ·exact a _
  ·rfl
theorem Gb(p:Pl)(k:Nat):∀a j c,j+k=f.size->k<a->gK f p a j c=Au ((List.range' j k).map (fun j=>((aH f j).toNat,{ p with col:=p.col+j }))) c:=by
 induction k with
 | zero =>
  intro a j c h d;cases a with
  | zero=>omega
  | succ a=>rw[gK,RU (by omega)];rfl
 | succ k e =>
  intro a j c h d;cases a with
  | zero=>omega
  | succ a =>
   rw[gK,RY (by omega),List.range'_succ,Uf,Au,e a (j+1) _ (by omega) (by omega)]
theorem NH(x:ByteArray×Pl)(c:lj):lV x.1 x.2 c=Au (xh x) c:=by
 unfold lV xh;rw[Gb x.1 x.2 x.1.size _ 0 c (by omega) (by omega),List.range_eq_range']
theorem zT(a:List (ByteArray×Pl)):∀c,pt a c=Au (a.flatMap xh) c:=by
 induction a with
 | nil=>intro c;rfl
 | cons x r b =>
  intro c;obtain⟨t,p⟩:=x;rw[pt,SZ,Ob,NH (t,p) c,b]
structure Pn(T:List Tk)(S:List Sm)(refs:List Nat)(c:lj)(P:List cW)(tags:List Nat)(num:ByteArray)(fr:Bool):Prop where
 st:P=c.steps.map (rO T S)
 tg:tags=c.Wr
 rf:refs=c.names.map (av S)
 fr:fr=c.behind
 dg:Im num.toList
 wo:c.Wl=kc num.toList∨(c.names.length+c.Wr.length<c.Wl/\c.names.length+c.Wr.length<kc num.toList)
 no:c.behind=true->num.toList=[]
theorem Ak:(vR (H:Int)).toList=[UInt8.ofNat H]:=by
 unfold vR;rw[Bd,SO]
theorem Bg(h:b<256):(UInt8.ofNat b).toNat=b:=by rw[UInt8.toNat_ofNat'];omega
section
variable {T:List Tk} {S:List Sm} {refs:List Nat} {c:lj} {P:List cW} {tags:List Nat} {num:ByteArray} {fr:Bool}
theorem Pn.zero(E:Pn T S refs c P tags num fr):c.Wl=0 ↔ num.toList=[]:=by
 rw[<-Gj E.dg];rcases E.wo with h | ⟨a,b⟩ <;> omega
theorem Pn.digit(E:Pn T S refs c P tags num fr)(g:85<=b/\b<=89):Pn T S refs (jx c (b-84)) P tags (num++vR (b:Int)) false:=by
 have a:Im (num++vR (b:Int)).toList:=by
  rw[wb,Ak];intro x i;rcases SB.1 i with h | h
  ·exact E.dg x h
  ·rw[Se.1 h,Bg (by omega)];exact g
 have d:kc (num++vR (b:Int)).toList=kc num.toList*5+(b-84):=by rw[wb,Ak,sD,Bg (by omega)]
 unfold jx;split
 ·next h =>
  refine⟨E.st,E.tg,E.rf,rfl,a,?_,fun h=>by cases h⟩;rw[d];rcases E.wo with w | ⟨e,f⟩
  ·exact R4 (by show c.Wl*5+(b-84)=_;rw[w])
  ·omega
 ·next h =>
  refine⟨E.st,E.tg,E.rf,rfl,a,RZ ?_,fun h=>by cases h⟩;rw[d];show _<c.Wl/\_;have:c.names.length+c.Wr.length<kc num.toList:=by rcases E.wo with w | ⟨e,f⟩ <;> omega
  exact⟨by show c.names.length+c.Wr.length<c.Wl;omega,by show c.names.length+c.Wr.length<_;omega⟩
theorem Pn.numb(E:Pn T S refs c P tags num fr)(d:65<=b/\b<=84)(a:Nat):fV (num++vR (b:Int)) a=if kc num.toList*20+(b-65)<a then kc num.toList*20+(b-65)+1 else 0:=by
 have:=JC (s:=num++vR (b:Int)) (D:=num.toList) (c:=UInt8.ofNat b) (by rw[wb,Ak]) E.dg (by rw[Bg (by omega)];exact d) a;rw[Bg (by omega)]at this;exact this
end
theorem EP(S:List Sm)(g:Pl)(X:List (Nat×Pl)):∀(a:List Nat) (c:lj) (P:List cW) (b:List Nat) (d:ByteArray) (t:Bool),Pn i S a c P b d t ->
  mv i S a (Kx (0,g)) (X.map Kx) P b d t=qy i S (ng g (Au X c)):=by
 induction X with
 | nil =>
  intro a c P b d t E;have e:ng g (cM,c)=(if c.Wl=0 then(if c.steps.length=0 then([],(1,g)) else(c.steps,cM)) else([],(4,g))):=rfl;rw[VC,mv,Au,e];by_cases h:c.Wl=0
  ·have j:d.toList=[]:=E.zero.1 h;rw[j,RU (by simp),RY h,E.st,Sn];split
   ·rfl
   ·rfl
  ·have j:¬d.toList=[]:=fun e=>h (E.zero.2 e);rw[RY (Sp.2 j),RU h];rfl
 | cons x r A =>
  intro a c P b d t E;obtain⟨n,p⟩:=x;have v:=E.st;have m:=E.tg;have s:=E.rf;have G:=E.fr;rw[Uf,mv,Au,show(Kx (n,p)).c=(n:Int) from rfl]
  show(if 85<=(n:Int)/\(n:Int)<=89 then _ else _)=_
  by_cases u:85<=n/\n<=89
  ·have e:bB c n p=(0,jx c (n-84)):=(by unfold bB;rw[RU (by omega),RY u]);rw[RY (by omega),e,RY (by rfl)];exact A _ _ _ _ _ _ (E.digit u)
  rw[RU (by omega)]
  show(if 65<=(n:Int)/\(n:Int)<=84 then _ else _)=_
  by_cases j:65<=n/\n<=84
  ·have y:a.length=c.names.length:=(by rw[s,Sn]);have k:c.Wl*20+(n-64)-1=c.Wl*20+(n-65):=(by omega);have e:bB c n p=eQ c (n-64) p:=(by unfold bB;rw[RY j]);have l:=E.numb j (a.length+b.length);rw[RY (by omega),e]
   show(if fV (d++vR (n:Int)) (a.length+b.length)=0 then _ else _)=_
   rcases E.wo with w | ⟨L,M⟩
   ·rw[<-w]at l;by_cases C:c.Wl*20+(n-65)<c.names.length
    ·have o:eQ c (n-64) p=(0,{ dB { c with Wl:=0 } ⟨2,c.names.getD (c.Wl*20+(n-65)) 0,p⟩ with behind:=true }):=(by unfold eQ;rw[k,RY C]);rw[RY (by rw[y];omega)]at l;rw[l,RU (by omega),o,RY (by rfl)];refine A _ _ _ _ _ _ ⟨?_,m,s,rfl,(fun x z=>by rw[mV]at z;cases z),R4 (by rw[mV];rfl),fun _=>mV⟩;show _=(c.steps++[_]).map _;rw[SF,v];congr 1;unfold pi;rw[RY (by omega),Tq];have I:a.getD (c.Wl*20+(n-65)) 0=av S (c.names.getD (c.Wl*20+(n-65)) 0):=by
      rw[s,RT,RT,Sy,RQ C];rfl
     rw[I];rfl
    ·by_cases H:c.Wl*20+(n-65)-c.names.length<c.Wr.length
     ·have o:eQ c (n-64) p=(0,{ dB { c with Wl:=0 } ⟨3,c.Wr.getD (c.Wl*20+(n-65)-c.names.length) 0,p⟩ with behind:=true }):=(by unfold eQ;rw[k,RU C,RY H]);rw[RY (by rw[y,m];omega)]at l;rw[l,RU (by omega),o,RY (by rfl)];refine A _ _ _ _ _ _ ⟨?_,m,s,rfl,(fun x z=>by rw[mV]at z;cases z),R4 (by rw[mV];rfl),fun _=>mV⟩;show _=(c.steps++[_]).map _;rw[SF,v];congr 1;unfold pi;rw[RU (by omega),y,m,show c.Wl*20+(n-65)+1-c.names.length-1=c.Wl*20+(n-65)-c.names.length by omega];rfl
     ·have o:eQ c (n-64) p=(5,{ c with Wl:=0 }):=(by unfold eQ;rw[k,RU C,RU H]);rw[RU (by rw[y,m];omega)]at l;rw[l,RY rfl,o,RU (by simp)];rfl
   ·have o:eQ c (n-64) p=(5,{ c with Wl:=0 }):=(by unfold eQ;rw[k,RU (by omega),RU (by omega)]);rw[RU (by rw[y,m];omega)]at l;rw[l,RY rfl,o,RU (by simp)];rfl
  rw[RU (by omega)]
  show(if(n:Int)=90/\t=true then _ else _)=_
  by_cases q:n=90/\c.behind=true
  ·have e:bB c n p=(0,{ c with Wr:=c.Wr++[c.steps.length-1],behind:=false }):=(by unfold bB;rw[RU j,RU u,RY q]);rw[RY ⟨by omega,by rw[G];exact q.2⟩,e,RY (by rfl)];refine A _ _ _ _ _ _ ⟨v,?_,s,rfl,E.dg,R4 ?_,fun h=>by cases h⟩
   ·rw[m,v,Sn]
   ·show c.Wl=_;have F:=E.no q.2;rw[E.zero.2 F,F];rfl
  rw[RU (fun h=>q ⟨by have:=h.1;omega,by rw[<-G];exact h.2⟩)]
  show(if(n:Int)=63/\(d.toList == [])=true then _ else _)=_
  by_cases B:n=63/\c.Wl=0
  ·have e:bB c n p=(0,dB c ⟨1,0,p⟩):=(by unfold bB;rw[RU j,RU u,RU q,RY B]);rw[RY ⟨by omega,by rw[E.zero.1 B.2];rfl⟩,e,RY (by rfl)];refine A _ _ _ _ _ _ ⟨?_,m,s,rfl,E.dg,E.wo,fun h=>by cases h⟩;show _=(c.steps++[_]).map _;rw[SF,v];rfl
  ·have e:bB c n p=(4,c):=(by unfold bB;rw[RU j,RU u,RU q,RU B]);have J:¬((n:Int)=63/\(d.toList == [])=true):=fun h=>B ⟨by omega,E.zero.2 (by simpa using h.2)⟩;rw[RU J,e,RU (by simp)];rfl
def mU(t:Tk):Pl:=⟨t.file,t.line,t.col⟩
def Rb(t:Tk):ByteArray×Pl:=(t.s,mU t)
def jc(T:List Tk)(b z:Nat):List (ByteArray×Pl):=((T.drop b).take (z-b)).map Rb
theorem DK:(jc i N n).drop H=jc i (N+H) n:=by
 unfold jc;rw[<-List.map_drop,List.drop_take,List.drop_drop,show n-N-H=n-(N+H) by omega]
theorem yb(h:n<H)(a:H<=i.length):jc i n H=(tS i n,mU (i.getD n gB)) :: jc i (n+1) H:=by
 unfold jc;rw[Sq (by omega),show H-n=(H-(n+1))+1 by omega,VB,Uf];congr 1;unfold Rb tS;rw[RT,RQ (by omega)];rfl
theorem we:jc i H H=[]:=by unfold jc;rw[Td,UH];rfl
theorem Ii(a:H<=k.length):jc (k++i) n H=jc k n H:=by
 unfold jc;by_cases h:n<=k.length
 ·rw[Th h,TA (by rw[Tc];omega)]
 ·rw[show H-n=0 by omega,UH,UH]
theorem NG(a:H<=k.length):jc (k++[x]) H (k++[x]).length=jc k H k.length++[Rb x]:=by
 unfold jc;rw[Th a,Uk (by simp;omega),Uk (by rw[Tc];exact RV _),SF];rfl
structure sK(T:List Tk)(d:Db):Prop where
 ne:∀q,q<T.length->((tS T q).toList == [])=false
 til:∀(n:Nat) (s:St),d.Wv[n]?=some s->pK s.kind=true->s.til=0
 pr:∀(n:Nat) (s:St),d.Wv[n]?=some s->s.kind=5->s.Wp=jc T ((aq (ab T) (av (ab T) n)).h+(bq T (aq (ab T) (av (ab T) n)).h).length+1) ((aq (ab T) (av (ab T) n)).z-1)/\s.fin=mU (T.getD ((aq (ab T) (av (ab T) n)).z-1) gB)
 op:d.Wp=if d.Wi=true then jc T ((dQ T (fa T)).2+d.We.length+1) T.length else []
section
variable {T:List Tk} {t:Tk} {d d':Db}
theorem Q5(B:List ByteArray)(h:aJ B ⟨#[36,61]⟩=true):(B.takeWhile jb).length<B.length:=by
 induction B with
 | nil=>cases h
 | cons x r c =>
  cases e:jb x
  ·rw[Um (by rw[e];simp)];simp
  ·rw[TT e];have b:aJ r ⟨#[36,61]⟩=true:=by
    unfold aJ at h ⊢;rw[UF,SL]at h;rcases h with h | h
    ·exfalso
     have a:x.toList=(⟨#[36,61]⟩:ByteArray).toList:=(by simpa using h);unfold jb at e;rw[a]at e;exact absurd e (by decide +kernel)
    ·exact h
   have:=c b;simp only[List.length_cons];omega
theorem sK.old(Q:sK T d)(R:gM T d){M:List Sm}{a:St}(f:d.Wv[b]?=some m)(e:av (ab T++M) b=av (ab T) b)(g:a.kind=m.kind)(i:a.Wp=m.Wp)(j:a.fin=m.fin)(l:a.kind=5) :
  a.Wp=jc (T++[t]) ((aq (ab T++M) (av (ab T++M) b)).h+(bq (T++[t]) (aq (ab T++M) (av (ab T++M) b)).h).length+1) ((aq (ab T++M) (av (ab T++M) b)).z-1)/\a.fin=mU ((T++[t]).getD ((aq (ab T++M) (av (ab T++M) b)).z-1) gB):=by
 have o:=(R8.1 f).1;have c:=R.hel.at_ o;obtain⟨p,q⟩:=Q.pr b m f (by rw[<-g];exact l);obtain⟨-,-,-,k⟩:=R.ct b m f;obtain⟨P,r⟩:=(dL T).s _ c;have n:=P.lt;rw[e,jt _ _ _ c,i,j,pP T [t] _ k,Ii T [t] _ _ (by omega),p,q];refine⟨rfl,?_⟩;rw[RT,RT,Si (by omega)]
theorem sK.nes(Q:sK T d)(b:(t.s.toList == [])=false):∀q,q<(T++[t]).length->((tS (T++[t]) q).toList == [])=false:=fun q a=>by
 by_cases h:q<T.length
 ·rw[fK T [t] q h];exact Q.ne q h
 ·rw[R9,UU]at a;rw[show q=T.length by omega,nN];exact b
theorem sK.Wj(Q:sK T d)(R:gM T d)(j:(t.s.toList == [])=false)(g:bY t.s=false)(c:d'.Wv=d.Wv)(b:d'.Wp=if d'.Wi=true then jc (T++[t]) ((dQ (T++[t]) (fa T)).2+d'.We.length+1) (T++[t]).length else []):sK (T++[t]) d':=by
 obtain⟨e,f⟩:=lL (T:=T) (t:=t) g;refine⟨Q.nes j,fun n s a=>?_,fun n s a i=>?_,by rw[f];exact b⟩
 ·rw[c]at a;exact Q.til n s a
 ·rw[c]at a;have:=Q.old (t:=t) R (M:=[]) a (by rw[Su]) rfl rfl rfl i;rw[Su]at this;rw[e];exact this
theorem sK.other(Q:sK T d)(R:gM T d)(q:(t.s.toList == [])=false)(j:Sm)(o:ab (T++[t])=ab T++[j])(b:∀(n:Nat) (c:St),d'.Wv[n]?=some c->∃s,d.Wv[n]?=some s/\c.kind=s.kind/\c.Wp=s.Wp/\c.fin=s.fin/\(pK s.kind=true->c.til=s.til))(a:d'.Wp=[]/\d'.Wi=false):sK (T++[t]) d':=by
 refine⟨Q.nes q,fun n s i g=>?_,fun n s i p=>?_,by rw[a.1,a.2];rfl⟩
 ·obtain⟨u,e,f,-,-,m⟩:=b n s i;rw[f]at g;rw[m g];exact Q.til n u e g
 ·obtain⟨u,e,f,k,l,-⟩:=b n s i;rw[o];exact Q.old R e (R.hel.ix j (R8.1 e).1) f k l p
theorem sK.first(Q:sK T d)(R:gM T d)(f:(t.s.toList == [])=false)(x:fa T=T.length)(b:d.Wi=false)(a:(aw d t.s).1=0):sK (T++[t]) (aw d t.s).2:=by
 have r:d.Wp=[]:=by rw[Q.op,b];rfl
 have i:d.Wp=if d.Wi=true then jc (T++[t]) ((dQ (T++[t]) (fa T)).2+d.We.length+1) (T++[t]).length else []:=by rw[r,b];rfl
 have e:∀(n:Nat) (c:St),d.Wv[n]?=some c->∃s,d.Wv[n]?=some s/\c.kind=s.kind/\c.Wp=s.Wp/\c.fin=s.fin/\(pK s.kind=true->c.til=s.til):=fun n c h=>⟨c,h,rfl,rfl,rfl,fun _=>rfl⟩
 unfold aw at *;by_cases k:(t.s.toList == [36,123])=true
 ·rw[RY k];obtain⟨j,-⟩:=mZ (T:=T) (t:=t) x (by rw[(jJ (dd k)).2.2];decide);exact Q.other R f _ j e ⟨r,b⟩
 rw[RU k]at a ⊢;by_cases l:(t.s.toList == [36,125])=true
 ·rw[RY l]at a ⊢;cases A:d.blocks.getLast? with
  | none=>rw[A]at a;cases a
  | some q =>
   simp only;obtain⟨j,-⟩:=mZ (T:=T) (t:=t) x (by rw[(jJ (dd l)).2.2];decide);refine Q.other R f _ j (fun n c g=>?_) (by unfold cI de;split <;> exact⟨r,b⟩);unfold cI de at g;split at g
   ·exact e n c g
   ·obtain⟨v,B,C⟩:=oj g;refine⟨v,B,?_⟩;rw[C];split
    ·unfold lz;split
     ·next h=>exact⟨rfl,rfl,rfl,fun w=>by rw[h.2]at w;cases w⟩
     ·exact⟨rfl,rfl,rfl,fun _=>rfl⟩
    ·exact⟨rfl,rfl,rfl,fun _=>rfl⟩
 rw[RU l]at a ⊢;by_cases m:(t.s.toList == [36,99])=true
 ·rw[RY m]at a ⊢;by_cases y:0<d.blocks.length
  ·rw[RY y]at a;cases a
  ·rw[RU y];exact Q.Wj R f (fC m (by decide)) rfl i
 rw[RU m]at a ⊢;by_cases o:(t.s.toList == [36,118])=true
 ·rw[RY o];exact Q.Wj R f (fC o (by decide)) rfl i
 rw[RU o]at a ⊢;by_cases p:(t.s.toList == [36,100])=true
 ·rw[RY p];exact Q.Wj R f (fC p (by decide)) rfl i
 rw[RU p]at a ⊢;split at a
 ·cases a
 ·next z =>
  rw[RU z];unfold bO at *;cases u:dn t.s
  ·rw[u,RU (by simp)]at a;split at a
   ·cases a
   ·next D =>
    split at a
    ·cases a
    ·next E =>
     rw[RU (by simp),RU D,RU E];exact Q.Wj R f (qG u) rfl i
  ·rw[u,RY rfl]at a;cases a
theorem sK.key(Q:sK T d)(R:gM T d)(c:(t.s.toList == [])=false)(b:d.Wi=false)(a:(aI d t.s).1=0):sK (T++[t]) (aI d t.s).2:=by
 have k:d.Wp=[]:=by rw[Q.op,b];rfl
 have e:d.Wp=if d.Wi=true then jc (T++[t]) ((dQ (T++[t]) (fa T)).2+d.We.length+1) (T++[t]).length else []:=by rw[k,b];rfl
 unfold aI at *;split
 ·next h=>exact Q.Wj R c (fC h (by decide)) rfl e
 ·next f =>
  rw[RU f]at a;split
  ·next h=>exact Q.Wj R c (fC h (by decide)) rfl e
  ·next g =>
   rw[RU g]at a;split
   ·next h=>exact Q.Wj R c (fC h (by decide)) rfl e
   ·next i =>
    rw[RU i]at a;split
    ·next h=>exact Q.Wj R c (fC h (by decide)) rfl e
    ·next j=>rw[RU j]at a;cases a
theorem sK.body(Q:sK T d)(R:gM T d)(x:(t.s.toList == [])=false){B:List ByteArray}(I:dQ T (fa T)=(r,b))(w:fa T<b)(G:b<=T.length)(C:eU r.toList d.kind)(N:dX T b T.length=B)(p:d.Wi=aJ B ⟨#[36,61]⟩)(m:d.We=B.takeWhile jb)(c:(aX d t.s (mU t)).1=0):sK (T++[t]) (aX d t.s (mU t)).2:=by
 have v:(dQ (T++[t]) (fa T)).2=b:=by rw[oq I w G C]
 have f:=Q.op;rw[I]at f;simp only at f;have E:B.length=T.length-b:=by rw[<-N,lW,Sn,Tc]
 have F:d.Wi=true->b+d.We.length+1<=T.length:=fun h=>by
  have:=Q5 B (by rw[<-p];exact h);rw[<-m]at this;omega
 rw[oE C]at *;by_cases z:(t.s.toList == [36,46])=true
 ·rw[RY z]at *;obtain⟨U,-⟩:=AI z;obtain⟨y,-⟩:=nz T t;rw[RY U,oq I w G C]at y;simp only at y;have l:bq (T++[t]) b=d.We:=by
   unfold bq;rw[Th G,sV _ t (fun u V=>?_) z,m,<-N,lW];have:=uF T b (by omega) u V;unfold bY at this;simp only[Bool.or_eq_false_iff]at this;exact this.1.1
  unfold l9 at *;split at c
  ·cases c
  ·next P =>
   rw[RU P];split at c
   ·cases c
   ·next k =>
    rw[RU k];simp only;cases a:((d.kind==7)||(d.kind==8))
    ·simp only[Bool.or_eq_false_iff]at a;have D:(aW d (mU t)).Wv=d.Wv++[⟨d.kind,d.label,d.We,d.Wp,mU t,0⟩]:=by
      unfold aW nc nC;rw[a.1,a.2];simp only[Bool.false_eq_true,if_false];split <;> rfl
     have L:lm (ab T++[(⟨fa T,T.length+1,b,r⟩:Sm)]) (ab T).length=true:=(by rw[tC];show _=true;rw[CB C,a.1,a.2];rfl);have M:∀{n:Nat} {s:St},(aW d (mU t)).Wv[n]?=some s->d.Wv[n]?=some s∨(n=d.Wv.length/\s=⟨d.kind,d.label,d.We,d.Wp,mU t,0⟩):=fun {n s} i=>by
      rw[D]at i;by_cases J:n<d.Wv.length
      ·rw[Si J]at i;exact R4 i
      ·have e:n=d.Wv.length:=by
        have:=(R8.1 i).1;rw[R9,UU]at this;omega
       subst e;rw[Sf (RV _),Td]at i;exact RZ ⟨rfl,(TU i).symm⟩
     refine⟨Q.nes x,fun n s i S=>?_,fun n s i j=>?_,rfl⟩
     ·rcases M i with h | ⟨-,h⟩
      ·exact Q.til n s h S
      ·rw[h]
     ·rw[y];rcases M i with h | ⟨J,h⟩
      ·exact Q.old R h (R.hel.ix _ (R8.1 h).1) rfl rfl rfl j
      ·subst J;have O:av (ab T++[(⟨fa T,T.length+1,b,r⟩:Sm)]) d.Wv.length=(ab T).length:=by
        unfold av;rw[m8,RY L,R.hel.len,RT,Sf (RV _),Td];rfl
       rw[O,kZ];simp only;rw[h]at j ⊢;simp only at j ⊢;have H:d.Wi=true:=by
        cases e:d.Wi
        ·exact absurd ⟨by rw[j];rfl,e⟩ k
        ·rfl
       rw[l,Tq,Ii T [t] _ _ (RV _),f,H,RY rfl];refine⟨rfl,?_⟩;rw[RT,Sf (RV _),Td];rfl
    ·have D:(aW d (mU t)).Wv=d.Wv:=by
      unfold aW dW;rw[SL]at a;split
      ·rfl
      ·next q=>rw[RY (a.resolve_left q)]
     exact Q.other R x _ y (fun n W h=>⟨W,by rw[<-D];exact h,rfl,rfl,rfl,fun _=>rfl⟩) ⟨rfl,rfl⟩
 ·rw[RU z]at *;by_cases o:(t.s.toList == [36,61])=true/\(d.kind==5)=true/\d.Wi=false
  ·rw[RY o]at *;unfold ce at *;split at c
   ·cases c
   ·next g =>
    rw[RU g];refine Q.Wj R x (fC o.1 (by decide)) rfl ?_;show d.Wp=if true=true then _ else _;rw[RY rfl,f,o.2.2,RU (by simp),v];have K:aJ B ⟨#[36,61]⟩=false:=by rw[<-p];exact o.2.2
    have:d.We.length=T.length-b:=(by rw[m,tA B K,E]);show _=jc (T++[t]) (b+d.We.length+1) (T++[t]).length;rw[this,R9,UU,show b+(T.length-b)+1=T.length+1 by omega,we]
  ·rw[RU o]at *;cases A:dn t.s
   ·rw[A,RU (by simp)]at c;rw[RU (by simp)];split at c
    ·next g =>
     rw[RY g];refine Q.Wj R x (qG A) rfl ?_;show d.Wp++[(t.s,mU t)]=if d.Wi=true then _ else _;rw[f,RY g,RY g,v];exact(NG T t _ (F g)).symm
    ·next g =>
     rw[RU g];split at c
     ·next k =>
      rw[RY k];refine Q.Wj R x (qG A) rfl ?_;show d.Wp=if d.Wi=true then _ else _;rw[f,RU g,RU g]
     ·next k=>simp only at c;rw[c]at k;exact absurd rfl k
   ·rw[A,RY rfl]at c;cases c
theorem sK.step(Q:sK T d)(m:ug T d)(R:gM T d)(i:(t.s.toList == [])=false)(c:(aX d t.s (mU t)).1=0):sK (T++[t]) (aX d t.s (mU t)).2:=by
 rcases m with ⟨k,f,b,a,l⟩ | ⟨k,f,b,a,l,r,q⟩ | ⟨v,j,B,f,g,p,o,n,a,b,u,l,w⟩
 ·have e:aX d t.s (mU t)=aw d t.s:=by unfold aX;rw[f];rfl
  rw[e]at c ⊢;exact Q.first R i k a c
 ·have e:aX d t.s (mU t)=aI d t.s:=by unfold aX;rw[f];rfl
  rw[e]at c ⊢;exact Q.key R i a c
 ·exact Q.body R i f g p o n a b c
end
theorem Qs(h:z0=⟨[],[],[],[],[],[],[],[],0,⟨#[]⟩,[],false,[]⟩):sK [] z0:=by
 subst h;exact⟨fun q a=>(by simp at a),(fun n s h=>by cases h),(fun n s h=>by cases h),rfl⟩
section
variable {T:List Tk} {t:Tk} {d:Db}
structure qT(T:List Tk)(d:Db):Prop where
 e:sH T (ab T) d
 o:ug T d
 u:∀j,j<T.length->a9 T (ab T) j=0
 b:jP T=(d.blocks.length:Int)
 r:gM T d
 f:sF d
 p:sK T d
theorem Cc(T:List Tk)(t:Tk):jP (T++[t])=aP (jP T) t.s:=by
 unfold jP;rw[Uj];rfl
theorem qT.step(I:qT T d)(m:T.length<=100000)(F:(t.s.toList == [])=false)(p:Pl)(J:p=mU t):a9 (T++[t]) (ab (T++[t])) T.length=(aX d t.s p).1/\((aX d t.s p).1=0->qT (T++[t]) (aX d t.s p).2):=by
 obtain⟨z,q⟩:=AQ T m I.u;have v:=BJ T t m I.u;have g:a9 (T++[t]) (ab (T++[t])) T.length=(aX d t.s p).1/\((aX d t.s p).1=0->sH (T++[t]) (ab (T++[t])) (aX d t.s p).2/\ug (T++[t]) (aX d t.s p).2):=by
  rcases I.o with ⟨n,i,c,a,k⟩ | ⟨n,i,c,a,k,x,w⟩ | ⟨g,D,B,i,l,E,C,A,a,c,y,k,G⟩
  ·have e:aX d t.s p=aw d t.s:=(by unfold aX;rw[i];rfl);rw[v,RY n.symm,e];exact FI z q I.e n i c a k F
  ·have e:aX d t.s p=aI d t.s:=(by unfold aX;rw[i];rfl);obtain⟨M,N⟩:=Nh (t:=t) z q I.e n c a k x w;rw[v,RU (by omega),M,RY (by simp),e];exact N
  ·rw[v,RU (by omega),oq i l E C,RU (by simp only;omega)];simp only;rw[A];exact Kn z q I.e i l E C A a c y k G p
 refine⟨g.1,fun h=>?_⟩;obtain⟨K,L⟩:=g.2 h;refine⟨K,L,fun j H=>?_,?_,gM.step I.o I.e I.u I.r m p h,sF.step I.o I.e I.r I.f p h,by rw[J]at h ⊢;exact I.p.step I.o I.r F h⟩
 ·rw[R9,SA,SN]at H;by_cases e:j<T.length
  ·exact rN T [t] m I.u j e
  ·have e:j=T.length:=(by omega);rw[e,g.1];exact h
 ·rw[Cc,I.b,Dw I.o t.s p h]
theorem GT(T:List Tk)(h:0<T.length):∃u,T.getLast?=some u/\u.s=tS T (T.length-1):=by
 rw[Up,RQ (by omega)];refine⟨_,rfl,?_⟩;unfold tS;rw[RT,RQ (by omega)];rfl
theorem qT.open(I:qT T d):lB d=!du T:=by
 have p:=dL T;have t:=I.b;have a:fa T<T.length->du T=false:=fun h=>by
  obtain⟨u,i,j⟩:=GT T (by omega);have:=p.n (T.length-1) (by unfold fa at h;omega) (by omega);unfold du;rw[i];simp only;rw[j,this];rfl
 unfold lB;rcases I.o with ⟨D,g,f,c,x⟩ | ⟨D,g,f,c,x,H,G⟩ | ⟨r,w,B,g,E,M,m,L,c,f,J,x,K⟩
 ·rw[g];have y:(bne (0:Int) 0)=false:=rfl;rw[y,Ts];by_cases C:T.length=0
  ·have e:T=[]:=Sw C;rw[e]at t ⊢;have:d.blocks.length=0:=by
    have h:jP []=0:=rfl;omega
   rw[this];rfl
  ·obtain⟨u,i,j⟩:=GT T (by omega);have F:0<(ab T).length:=by
    rcases Nat.eq_zero_or_pos (ab T).length with h | h
    ·have:=Fa T;rw[h]at this;unfold kJ at this;rw[RU (by omega)]at this;omega
    ·exact h
   have q:(aq (ab T) ((ab T).length-1)).z=T.length:=by
    have:=Fa T;unfold kJ at this;rw[RY F]at this;omega
   have v:=(p.s ((ab T).length-1) (by omega)).1.e;rw[q]at v;unfold du;rw[i];simp only;rw[j,v,TP,t];by_cases q:d.blocks.length=0
   ·rw[q];rfl
   ·have A:((d.blocks.length:Int)==0)=false:=V9 (by omega);rw[A,TH (show 0<d.blocks.length by omega)];rfl
 ·rw[g,a (by omega)];rfl
 ·rw[a (by omega)];have:(d.kind != 0)=true:=by
   generalize d.kind=k at m ⊢;generalize r.toList=l at m
   (rcases m with ⟨rfl,rfl⟩ | ⟨rfl,rfl⟩ | ⟨rfl,rfl⟩ | ⟨rfl,rfl⟩ | ⟨rfl,rfl⟩ | ⟨rfl,rfl⟩ | ⟨rfl,rfl⟩) <;> rfl
  rw[this];rfl
theorem LW{d:Db}(h:d=⟨[],[],[],[],[],[],[],[],0,⟨#[]⟩,[],false,[]⟩):qT [] d:=by
 subst h;refine⟨⟨rfl,fun x=>rfl,⟨rfl,rfl,fun i a=>(by simp at a)⟩,⟨rfl,rfl,fun i a=>(by simp at a)⟩⟩,ug.none rfl rfl rfl rfl rfl,fun j b=>(by simp at b),rfl,⟨nO.nil,(fun n s h=>by cases h),rfl⟩,⟨(fun n s h=>by cases h),(fun n m s u h=>by cases h),fun h=>by cases h⟩,Qs rfl⟩
end
section
variable (rec:Nat->List Bool->List Tk->List Tk×List Bool) (fs:Fs)
theorem G6(t:Tk)(r:List Tk)(b:List Bool)(a:List Tk)(h:((t.rule==0)&&(t.s.toList == []))=true):cN rec fs (t :: r) b a=((if du a=true then a else a++[rr t 7]),b):=by
 rw[cN.eq_def];exact RY h
theorem xx(t:Tk)(r:List Tk)(b:List Bool)(a:List Tk)(h:((t.rule==0)&&(t.s.toList == []))=false)(c:(t.s.toList == [36,91])=false):cN rec fs (t :: r) b a=cN rec fs r b (a++[t]):=by
 rw[cN.eq_def];simp only;rw[RU (by rw[h];simp),RY c]
theorem MS(t:Tk)(r:List Tk)(b:List Bool)(a:List Tk)(h:((t.rule==0)&&(t.s.toList == []))=false)(c:(t.s.toList == [36,91])=true)(d:du a=false):cN rec fs (t :: r) b a=(a++[rr t 4],b):=by
 rw[cN.eq_def];simp only;rw[RU (by rw[h];simp),RU (by rw[c];simp),RY d]
theorem G7(t a:Tk)(c:List Bool)(b:List Tk)(h:((t.rule==0)&&(t.s.toList == []))=false)(d:(t.s.toList == [36,91])=true)(e:du b=true):cN rec fs [t,a] c b=(b++[rr a (dy fs a.s a.rule)],c):=by
 rw[cN.eq_def];simp only;rw[RU (by rw[h];simp),RU (by rw[d];simp),RU (by rw[e];simp)]
theorem G8(t a b:Tk)(r:List Tk)(d:List Bool)(c:List Tk)(h:((t.rule==0)&&(t.s.toList == []))=false)(e:(t.s.toList == [36,91])=true)(f:du c=true):cN rec fs (t :: a :: b :: r) d c =
  if(dy fs a.s a.rule==0)=false then(c++[rr a (dy fs a.s a.rule)],d)
  else if(dS b.s b.rule==0)=false then(c++[rr b (dS b.s b.rule)],d)
  else if d.getD (bM fs a.s).toNat true=true then cN rec fs r d c
  else if eO (rec (bM fs a.s).toNat d c).1=true then rec (bM fs a.s).toNat d c
  else cN rec fs r (rec (bM fs a.s).toNat d c).2 (rec (bM fs a.s).toNat d c).1:=by
 rw[cN.eq_def];simp only;rw[RU (by rw[h];simp),RU (by rw[e];simp),RU (by rw[f];simp)]
theorem AW(g:∀j d c,∃V,(rec j d c).1=c++V)(n:Nat):∀L,L.length<=n->∀d c,∃V,(cN rec fs L d c).1=c++V:=by
 induction n with
 | zero =>
  intro L f d c;have:L=[]:=Sw (by omega);subst this;exact⟨[],by rw[cN.eq_def];simp⟩
 | succ n m =>
  intro L f d c;cases L with
  | nil=>exact⟨[],by rw[cN.eq_def];simp⟩
  | cons t r =>
   simp only[List.length_cons]at f;cases h:((t.rule==0)&&(t.s.toList == []))
   ·cases e:(t.s.toList == [36,91])
    ·rw[xx rec fs t r d c h e];obtain⟨V,k⟩:=m r (by omega) d (c++[t]);exact⟨t :: V,by rw[k];simp⟩
    ·cases i:du c
     ·rw[MS rec fs t r d c h e i];exact⟨_,rfl⟩
     ·match r,f with
      | [],_ =>
       refine⟨[],?_⟩;rw[cN.eq_def];simp only;rw[RU (by rw[h];simp),RU (by rw[e];simp),RU (by rw[i];simp)];simp
      | [a],_=>rw[G7 rec fs t a d c h e i];exact⟨_,rfl⟩
      | a :: b :: r',f =>
       simp only[List.length_cons]at f;rw[G8 rec fs t a b r' d c h e i];split
       ·exact⟨_,rfl⟩
       ·split
        ·exact⟨_,rfl⟩
        ·split
         ·exact m r' (by omega) d c
         ·obtain⟨V,k⟩:=g (bM fs a.s).toNat d c;split
          ·exact⟨V,k⟩
          ·obtain⟨o,l⟩:=m r' (by omega) (rec (bM fs a.s).toNat d c).2 (rec (bM fs a.s).toNat d c).1;exact⟨V++o,by rw[l,k];simp⟩
   ·rw[G6 rec fs t r d c h];simp only;split
    ·exact⟨[],by simp⟩
    ·exact⟨_,rfl⟩
end
theorem uI(n:Nat):∀j b a,∃V,(eD w n j b a).1=a++V:=by
 induction n with
 | zero=>intro j b a;exact⟨[],by simp[eD]⟩
 | succ n c=>intro j b a;rw[eD];exact AW (eD w n) w c _ _ (RV _) _ _
def Ik(L:List Tk):Prop:=∀t∈L,t.rule=0
structure PC(fs:Fs)(bg sn:List Bool):Prop where
 b:bg.length=4
 s:sn.length=fs.length
 e:∀j,j<fs.length->bg.getD j true=sn.getD j true
theorem PC.set{a c:List Bool}(h:PC u a c)(d:u.length<=4)(k:Nat)(g:k<u.length):PC u (a.set k true) (c.set k true):=by
 refine⟨by rw[SS];exact h.b,by rw[SS];exact h.s,fun j f=>?_⟩;have:=h.b;have:=h.s;rw[RT,RT,Tl,Tl];by_cases e:k=j
 ·rw[RY e,RY e,RY (by omega),RY (by omega)]
 ·rw[RU e,RU e];have:=h.e j f;rw[RT,RT]at this;exact this
def qV(fs:Fs)(N:Nat)(res:Gm)(R:List Tk×List Bool):Prop :=
 (res.1=cM/\qT R.1 res.2.2/\Ik R.1/\PC fs res.2.1 R.2/\R.1.length+1025*aU R.2<=N) ∨
 (∃(W:List Tk) (u:Tk) (d:Db),R.1=W++[u]/\(u.rule==0)=false/\qT W d/\Ik W/\res.1=(u.rule,mU u)) ∨
 ∃(W:List Tk) (t:Tk) (V:List Tk) (d:Db) (r:Int),R.1=W++t :: V/\t.rule=0/\qT W d/\W.length+1<=N/\a9 (W++[t]) (ab (W++[t])) W.length=r/\(r==0)=false/\res.1=(r,mU t)
theorem qV.good(a:q.1=cM)(c:qT g.1 q.2.2)(d:Ik g.1)(e:PC u q.2.1 g.2)(f:g.1.length+1025*aU g.2<=b):qV u b q g:=R4 ⟨a,c,d,e,f⟩
theorem qV.ends(a:g.1=k++[x])(c:(x.rule==0)=false)(d:qT k B)(e:Ik k)(f:q.1=(x.rule,mU x)):qV u b q g:=RZ (R4 ⟨k,x,B,a,c,d,e,f⟩)
theorem qV.rule(a:g.1=k++x :: i)(c:x.rule=0)(d:qT k B)(e:k.length+1<=b)(f:a9 (k++[x]) (ab (k++[x])) k.length=v)(j:(v==0)=false)(l:q.1=(v,mU x)):qV u b q g:=RZ (RZ ⟨k,x,i,B,v,a,c,d,e,f,j,l⟩)
theorem yQ(h:Ik z):eO z=false:=by
 unfold eO;cases e:z.getLast? with
 | none=>rfl
 | some t =>
  have:=h t (List.mem_of_getLast? e);simp[this]
theorem uD(k:Nat)(b:k<=f.size):(aK (aA f k).1=true->((aA f k).1.text.toList == [])=false/\(aA f k).1.rule=0)/\(aK (aA f k).1=false->(aA f k).1.text=⟨#[]⟩/\((aA f k).1.fin=true->(aA f k).1.rule=0)):=by
 have e:∀a k,k<=f.size->aK (b8 f a k).1=false->(b8 f a k).1.text=⟨#[]⟩/\((b8 f a k).1.fin=true->(b8 f a k).1.rule=0):=by
  intro a
  induction a with
  | zero=>intro k _ _;exact⟨rfl,fun h=>by cases h⟩
  | succ a i =>
   intro k b h;have d:=gZ f k b;rw[b8]at h ⊢;split
   ·next g =>
    rw[RY g]at h;split
    ·exact⟨rfl,fun h=>by cases h⟩
    ·next c =>
     rw[RU c]at h;exact i _ d.2.1 h
   ·next g =>
    rw[RU g]at h;split
    ·exact⟨rfl,fun h=>by cases h⟩
    ·next c =>
     rw[RU c]at h;exact(tW f k b).2 h
 unfold aA
 suffices hs:∀a k,k<=f.size->(aK (dN f a k).1=true->((dN f a k).1.text.toList == [])=false/\(dN f a k).1.rule=0)/\(aK (dN f a k).1=false->(dN f a k).1.text=⟨#[]⟩/\((dN f a k).1.fin=true->(dN f a k).1.rule=0)) from hs _ _ b
 clear b k;intro a
 induction a with
 | zero=>intro k b;exact⟨fun h=>by simp[dN,aK]at h,fun _=>⟨rfl,fun _=>rfl⟩⟩
 | succ a i =>
  intro k b;have d:=gZ f k b;have j:=ji f (bJ f k).2 d.2.1;rw[dN];split
  ·split
   ·exact i _ j.2
   ·next c =>
    refine⟨fun h=>absurd h c,fun h=>?_⟩;exact e _ _ d.2.1 h
  ·exact tW f k b
theorem Js(h:(v==0)=false):dy w y v=v:=by unfold dy;exact RY h
theorem Jt(h:v=0)(a:y=⟨#[]⟩):dy w y v=7:=by
 subst h a;unfold dy;rw[RU (by simp),RY pa]
theorem E2(h:v=0)(a:(y.toList == [])=false):dy w y v=if dn y=true then 5 else if bM w y<0 then 6 else 0:=by
 subst h;unfold dy;rw[RU (by simp),RU (by rw[a];simp),iu]
theorem Ei(h:(v==0)=false):dS y v=v:=by unfold dS;exact RY h
theorem Ej(h:v=0)(a:y=⟨#[]⟩):dS y v=7:=by
 subst h a;unfold dS;rw[RU (by simp),RY pa]
theorem BO(h:v=0)(a:(y.toList == [])=false):dS y v=if(y.toList == [36,93])=false then 5 else 0:=by
 subst h;unfold dS;rw[RU (by simp),RU (by rw[a];simp)]
theorem MW(az:w.length<=4)(a0:∀j,j<w.length->(ak w j).size<=1024)(f:Nat):∀n x k c y d b N,x<w.length->k<=(ak w x).size->PC w c y->aU y<=n ->
  ((ak w x).size-k+1)+1025*aU y<=f->qT b d->Ik b->b.length+((ak w x).size-k+1)+1025*aU y<=N->N<=100000 ->
  qV w N (bA w f x k c d) (cN (eD w n) w (mx (aD w x) (ak w x) k) y b):=by
 induction f with
 | zero=>intro n x k c y d b N _ _ _ _ h;omega
 | succ f ih =>
  intro n x k c y d b N hx hk hS hn hf K T hN U;have hl:=fT (ak w x) k hk;obtain⟨t1,t2⟩:=uD (ak w x) k hk;have C:=K.open;cases D:aK (aA (ak w x) k).1
  ·-- the file ends,or a word's stead is taken
   obtain⟨x1,x2⟩:=t2 D;rw[ko _ _ k D];cases F:(aA (ak w x) k).1.fin
   ·have hr:((aA (ak w x) k).1.rule==0)=false:=kF D F;have P:((lZ (aD w x) (ak w x) (aA (ak w x) k).1).rule==0&&((lZ (aD w x) (ak w x) (aA (ak w x) k).1).s.toList == []))=false:=(by simp only[lZ];rw[hr];rfl);have e2:((lZ (aD w x) (ak w x) (aA (ak w x) k).1).s.toList == [36,91])=false:=(by simp only[lZ];rw[x1];decide +kernel);rw[xx _ _ _ _ _ _ P e2,wY w f x k c d D (by rw[F];simp)];refine qV.ends b _ d (by rw[cN.eq_def]) hr K T ?_;simp[i9,F,lZ,mU,kR]
   ·have P:((lZ (aD w x) (ak w x) (aA (ak w x) k).1).rule==0&&((lZ (aD w x) (ak w x) (aA (ak w x) k).1).s.toList == []))=true:=(by simp only[lZ];rw[x1,x2 F,pa];rfl);rw[G6 _ _ _ _ _ _ P];cases Q:du b
    ·rw[Q]at C;rw[wY w f x k c d D (by rw[C];simp)];refine qV.ends b (rr (lZ (aD w x) (ak w x) (aA (ak w x) k).1) 7) d (by simp) rfl K T ?_;simp[i9,F,lZ,mU,kR,rr]
    ·rw[Q]at C;rw[Av w f x k c d D F C];exact qV.good rfl (by simp only[if_true];exact K) (by simp only[if_true];exact T) hS (by simp only[if_true];omega)
  ·have aS:=hl.2.2 D;obtain⟨x1,x2⟩:=t1 D;rw[kp _ _ k hk D];have P:((lZ (aD w x) (ak w x) (aA (ak w x) k).1).rule==0&&((lZ (aD w x) (ak w x) (aA (ak w x) k).1).s.toList == []))=false:=(by simp only[lZ];rw[x1];simp);cases hi:((aA (ak w x) k).1.text.toList == [36,91])
   ·-- a word is taken
    rw[xx _ _ _ _ _ _ P (by exact hi)];have J:gJ w f x k c d=((if((aX d (aA (ak w x) k).1.text (kR (aD w x) (ak w x) (aA (ak w x) k).1.pos)).1==0)=true then cM else((aX d (aA (ak w x) k).1.text (kR (aD w x) (ak w x) (aA (ak w x) k).1.pos)).1,kR (aD w x) (ak w x) (aA (ak w x) k).1.pos),c,(aX d (aA (ak w x) k).1.text (kR (aD w x) (ak w x) (aA (ak w x) k).1.pos)).2),(aA (ak w x) k).2):=by
     unfold gJ j9;rw[hi];simp
    obtain⟨g1,g2⟩:=K.step (t:=lZ (aD w x) (ak w x) (aA (ak w x) k).1) (by omega) x1 (kR (aD w x) (ak w x) (aA (ak w x) k).1.pos) rfl;have e3:(lZ (aD w x) (ak w x) (aA (ak w x) k).1).s=(aA (ak w x) k).1.text:=rfl;rw[e3]at g1 g2;cases h2:((aX d (aA (ak w x) k).1.text (kR (aD w x) (ak w x) (aA (ak w x) k).1.pos)).1==0)
    ·rw[oR w f x k c d D (by rw[J,h2];simpa using h2),J,h2];obtain⟨V,hV⟩:=AW (eD w n) w (uI w n) _ _ (RV _) y (b++[lZ (aD w x) (ak w x) (aA (ak w x) k).1]);exact qV.rule b (lZ (aD w x) (ak w x) (aA (ak w x) k).1) V d _ (by rw[hV];simp) x2 K (by omega) g1 h2 (by simp[lZ,mU,kR])
    ·rw[zh w f x k c d D (by rw[J,h2];rfl),J];refine ih n x _ c y _ _ N hx hl.2.1 hS hn (by omega) (g2 (by simpa using h2)) ?_ (by simp;omega) U;intro u hu;rcases SB.1 hu with hu | hu
     ·exact T u hu
     ·rw[Se.1 hu];exact x2
   ·-- an inclusion
    have J:gJ w f x k c d=nI (cJ w f) w x (aA (ak w x) k).2 (kR (aD w x) (ak w x) (aA (ak w x) k).1.pos) c d:=by
     unfold gJ j9;rw[hi,RY rfl]
    have p:∀(W:List Tk) (u:Tk) (fl:oL),rT w x (aA (ak w x) k).2 (kR (aD w x) (ak w x) (aA (ak w x) k).1.pos) d=.inl fl->fl=(u.rule,mU u)->(u.rule==0)=false->qV w N (bA w (f+1) x k c d) (b++[u],y):=fun W u fl af e h0=>by
     have e2:nI (cJ w f) w x (aA (ak w x) k).2 (kR (aD w x) (ak w x) (aA (ak w x) k).1.pos) c d=((fl,c,d),(aA (ak w x) k).2):=by
      unfold nI;rw[af]
     rw[oR w f x k c d D (by rw[J,e2,e];exact h0),J,e2];exact qV.ends b u d rfl h0 K T e
    cases Q:du b
    ·rw[Q]at C;rw[MS _ _ _ _ _ _ P (by exact hi) Q];exact p b (rr (lZ (aD w x) (ak w x) (aA (ak w x) k).1) 4) _ (by unfold rT;rw[RY (by rw[C];rfl)];rfl) rfl rfl
    ·rw[Q]at C;have v:¬lB d=true:=(by rw[C];simp);obtain⟨z,hz⟩:∃z,z=(aA (ak w x) k).2:=⟨_,rfl⟩
     rw[<-hz]at hl aS J p ⊢;have ha:=fT (ak w x) z hl.2.1;obtain⟨a1,a2⟩:=uD (ak w x) z hl.2.1;cases g:aK (aA (ak w x) z).1
     ·obtain⟨y1,y2⟩:=a2 g;rw[ko _ _ z g,G7 _ _ _ _ _ _ P (by exact hi) Q];have O:dy w (lZ (aD w x) (ak w x) (aA (ak w x) z).1).s (lZ (aD w x) (ak w x) (aA (ak w x) z).1).rule=if(aA (ak w x) z).1.fin=true then 7 else(aA (ak w x) z).1.rule:=by
       cases B:(aA (ak w x) z).1.fin
       ·exact Js w _ _ (kF g B)
       ·exact Jt w _ _ (y2 B) y1
      refine p b _ _ (by unfold rT;rw[RU v,RY g]) (by simp only[i9,rr,mU];rw[O];rfl) ?_;simp only[rr];rw[O];cases B:(aA (ak w x) z).1.fin
      ·exact kF g B
      ·rfl
     ·have ap:=ha.2.2 g;obtain⟨y1,y2⟩:=a1 g;obtain⟨o,I⟩:∃o,o=(aA (ak w x) z).2:=⟨_,rfl⟩
      rw[kp _ _ z hl.2.1 g,<-I];rw[<-I]at ha ap;have X:=fT (ak w x) o ha.2.1;obtain⟨b1,b2⟩:=uD (ak w x) o ha.2.1;obtain⟨tl,Y⟩:∃tl,mx (aD w x) (ak w x) o=lZ (aD w x) (ak w x) (aA (ak w x) o).1 :: tl:=by
       cases i:aK (aA (ak w x) o).1
       ·exact⟨[],ko _ _ o i⟩
       ·exact⟨_,kp _ _ o ha.2.1 i⟩
      rw[Y,G8 _ _ _ _ _ _ _ _ P (by exact hi) Q];have O:dy w (lZ (aD w x) (ak w x) (aA (ak w x) z).1).s (lZ (aD w x) (ak w x) (aA (ak w x) z).1).rule=if dn (aA (ak w x) z).1.text=true then 5 else if bM w (aA (ak w x) z).1.text<0 then 6 else 0:=by
       exact E2 w _ _ y2 y1
      rw[O];have ax:(lZ (aD w x) (ak w x) (aA (ak w x) z).1).s=(aA (ak w x) z).1.text:=rfl;rw[ax];cases H:dn (aA (ak w x) z).1.text
      ·by_cases E:bM w (aA (ak w x) z).1.text<0
       ·simp only[Bool.false_eq_true,if_false,if_pos E];rw[RY (show((6:Int)==0)=false from rfl)];exact p b _ _ (by unfold rT;rw[RU v,RU (by rw[g];simp),RU (by rw[H];simp),RY E];rfl) rfl rfl
       ·simp only[Bool.false_eq_true,if_false,if_neg E];rw[RU (show ¬((0:Int)==0)=false by decide)];have ar:dS (lZ (aD w x) (ak w x) (aA (ak w x) o).1).s (lZ (aD w x) (ak w x) (aA (ak w x) o).1).rule=if aK (aA (ak w x) o).1=false then(if(aA (ak w x) o).1.fin=true then 7 else(aA (ak w x) o).1.rule) else if((aA (ak w x) o).1.text.toList == [36,93])=false then 5 else 0:=by
         cases i:aK (aA (ak w x) o).1
         ·obtain⟨y3,y4⟩:=b2 i;rw[RY rfl];cases B:(aA (ak w x) o).1.fin
          ·exact Ei _ _ (kF i B)
          ·exact Ej _ _ (y4 B) y3
         ·obtain⟨y3,y4⟩:=b1 i;rw[RU (by simp)];exact BO _ _ y4 y3
        rw[ar];cases i:aK (aA (ak w x) o).1
        ·rw[RY rfl];have ag:((if(aA (ak w x) o).1.fin=true then 7 else(aA (ak w x) o).1.rule)==0)=false:=by
          cases B:(aA (ak w x) o).1.fin
          ·exact kF i B
          ·rfl
         rw[RY ag];exact p b _ _ (by unfold rT;rw[RU v,RU (by rw[g];simp),RU (by rw[H];simp),RU E,<-I,RY i];rfl) rfl ag
        ·simp only[Bool.true_eq_false,if_false];cases ad:((aA (ak w x) o).1.text.toList == [36,93])
         ·rw[RY rfl,RY (show((5:Int)==0)=false from rfl)];exact p b _ _ (by unfold rT;rw[RU v,RU (by rw[g];simp),RU (by rw[H];simp),RU E,<-I,RU (by rw[i];simp),RY ad];rfl) rfl rfl
         ·simp only[Bool.true_eq_false,if_false];rw[RU (show ¬((0:Int)==0)=false by decide)]
          -- the file is named
          have a4:=X.2.2 i;have al:tl=mx (aD w x) (ak w x) (aA (ak w x) o).2:=by
           rw[kp _ _ o ha.2.1 i]at Y;exact(Wd Y).2.symm
          rw[al];obtain⟨j,hj⟩:∃j,j=(bM w (aA (ak w x) z).1.text).toNat:=⟨_,rfl⟩
          have M:j<w.length:=by
           rcases pT (aA (ak w x) z).1.text w with h | ⟨q,hq,h⟩
           ·rw[h]at E;omega
           ·rw[hj,h,SO];exact hq
          rw[<-hj];have l:gJ w f x k c d=(cJ w f j c d,(aA (ak w x) o).2):=by
           rw[J];unfold nI rT;rw[RU v,RU (by rw[g];simp),RU (by rw[H];simp),RU E,<-I,RU (by rw[i];simp),RU (by rw[ad];simp),<-hj]
          have G:=hS.e j M;cases L:c.getD j true
          ·rw[L]at G;have aT:y[j]?=some false:=by
            have:=hS.s;rw[RQ (by omega)];rw[RT,RQ (by omega)]at G;exact congrArg some G.symm
           have a5:=lT y j aT;rw[RU (by rw[<-G];simp)];have A:cJ w f j c d=bA w f j 0 (c.set j true) d:=(by unfold cJ;rw[L,RU (by simp)]);obtain⟨m,hm⟩:∃m,n=m+1:=⟨n-1,by omega⟩
           have er:eD w n j y b=cN (eD w m) w (mx (aD w j) (ak w j) 0) (y.set j true) b:=(by rw[hm,eD,zM]);have a3:=a0 j M;have R1:=ih m j 0 (c.set j true) (y.set j true) d b (b.length+1025*aU y) M (SE _) (hS.set az j M) (by omega) (by omega) K T (by omega) (by omega);rw[<-er,<-A]at R1;have ai:=uI w n j y b;generalize eD w n j y b=S at *;rcases R1 with ⟨Z,R,r3,r4,r5⟩ | ⟨W,u,d0,Z,R,r3,r4,r5⟩ | ⟨W,t,V,d0,r,Z,R,r3,r4,r5,r6,r7⟩
           ·rw[yQ r3,RU (by simp),zh w f x k c d D (by rw[l,Z];rfl),l];have a6:aU S.2<=aU y:=by
             obtain⟨V,hV⟩:=ai;rw[hV,R9]at r5;omega
            exact ih n x _ _ S.2 _ S.1 N hx X.2.1 r4 (by omega) (by simp only;omega) R r3 (by simp only;omega) U
           ·have ac:eO S.1=true:=(by unfold eO;rw[Z,Uv];simp only;rw[R];rfl);rw[ac,RY rfl,oR w f x k c d D (by rw[l,r5];exact R),l];exact qV.ends W u d0 Z R r3 r4 r5
           ·rw[oR w f x k c d D (by rw[l,r7];exact r6),l];cases ac:eO S.1
            ·rw[RU (by simp)];obtain⟨V2,ao⟩:=AW (eD w n) w (uI w n) _ (mx (aD w x) (ak w x) (aA (ak w x) o).2) (RV _) S.2 S.1;exact qV.rule W t (V++V2) d0 r (by rw[ao,Z];simp) R r3 (by omega) r5 r6 r7
            ·rw[RY rfl];exact qV.rule W t V d0 r Z R r3 (by omega) r5 r6 r7
          ·rw[L]at G;have A:cJ w f j c d=(cM,c,d):=(by unfold cJ;rw[L,RY rfl]);rw[RY G.symm,zh w f x k c d D (by rw[l,A];rfl),l,A];exact ih n x _ c y d b N hx X.2.1 hS hn (by omega) K T (by omega) U
      ·simp only[if_true];rw[RY (show((5:Int)==0)=false from rfl)];exact p b _ _ (by unfold rT;rw[RU v,RU (by rw[g];simp),RY H];rfl) rfl rfl
def LR(t:Tk):oL:=(t.rule,mU t)
def gn(fs:Fs)(k:Nat):oL :=
 if((za (cZ fs k).1 (ab (cZ fs k).1)).rule==0)=false then LR (za (cZ fs k).1 (ab (cZ fs k).1)) else LR (cZ fs k).2
theorem GF(h:qT z z0):za z (ab z)=gB:=Pq h.u
theorem wO(k:w.length<=4)(p:∀j,j<w.length->(ak w j).size<=1024)(n:H<w.length) :
  (cv w H).1=gn w H/\(((cv w H).1.1==0)=true->qT (cZ w H).1 (cv w H).2.2/\(cZ w H).1.length<=10000):=by
 have i:PC w Gx (List.replicate w.length false):=⟨rfl,by simp,fun j l=>by
  rw[RT,RT,TJ,RY l]
  match j,(show j<4 by omega) with
  | 0,_=>rfl
  | 1,_=>rfl
  | 2,_=>rfl
  | 3,_=>rfl⟩
 have o:(List.replicate w.length false)[H]?=some false:=by rw[TJ,RY n]
 have z:=lT _ H o;rw[nD]at z;have C:=p H n;have G:cv w H=bA w 5000 H 0 (Gx.set H true) fG:=by
  unfold cv cJ;rw[i.e H n,RT,o];rfl
 have I:eD w w.length H (List.replicate w.length false) []=cN (eD w (w.length-1)) w (mx (aD w H) (ak w H) 0) ((List.replicate w.length false).set H true) []:=by
  obtain⟨m,K⟩:∃m,w.length=m+1:=⟨w.length-1,by omega⟩
  have:w.length-1=m:=by omega
  rw[this]
  conv=>lhs;rw[show eD w w.length=eD w (m+1) by rw[K]]
  rw[eD,zM]
 have B:=MW w k p 5000 (w.length-1) H 0 (Gx.set H true) ((List.replicate w.length false).set H true) fG [] 5000 n (SE _) (i.set k H n) (by omega) (by omega) (LW rfl) (fun t L=>by cases L) (by simp only[List.length_nil];omega) (by omega);rw[<-G,<-I]at B;have q:(eD w w.length H (List.replicate w.length false) []).1=pI w H:=rfl;generalize eD w w.length H (List.replicate w.length false) []=N at *;unfold gn cZ;rcases B with ⟨b,d,f,D,g⟩ | ⟨W,u,F,b,d,f,D,g⟩ | ⟨W,t,V,F,r,b,d,f,D,g,A,E⟩
 ·rw[q]at d f g;simp only[yQ f,Bool.false_eq_true,if_false];rw[GF d,RU (by decide)];exact⟨b,fun _=>⟨d,by omega⟩⟩
 ·rw[q]at b;have a:eO (pI w H)=true:=by unfold eO;rw[b,Uv];simp only;rw[d];rfl
  rw[a,RY rfl,b,List.dropLast_concat,Uv];simp only[Option.getD_some];rw[GF f,RU (by decide)];exact⟨g,fun h=>by rw[g]at h;simp only at h;rw[d]at h;cases h⟩
 ·rw[q]at b;obtain⟨c,s⟩:∃c,(if eO (pI w H)=true then((pI w H).dropLast,(pI w H).getLast?.getD gB) else(pI w H,gB)).1=(W++[t])++c:=by
   cases a:eO (pI w H)
   ·rw[RU (by simp)];exact⟨V,by simp only;rw[b];simp⟩
   ·rw[RY rfl];cases V with
    | nil =>
     unfold eO at a;rw[b,Uv]at a;simp only[d]at a;cases a
    | cons v V=>exact⟨(v :: V).dropLast,by simp only;rw[b,List.dropLast_append_of_ne_nil (by simp),List.dropLast_cons_of_ne_nil (by simp)];simp⟩
  rw[s];have M:=rN W (t :: c) (by omega) f.u;have x:=wB (W++[t]) c (by simp;omega) W.length (by simp) (fun j l=>rN W [t] (by omega) f.u j l);rw[g]at x
  have y:=LL (T:=(W++[t])++c) (S:=ab ((W++[t])++c)) (k:=W.length) (by simp) (by rw[x];exact A) (fun j l=>by
   have:=M j l;rw[show W++t :: c=(W++[t])++c by simp]at this;exact this)
  have J:((W++[t])++c).getD W.length gB=t:=by
   rw[RT,TM,Sf (RV _),Td];simp
  rw[y,x,J];simp only;rw[RY A];exact⟨E,fun h=>by rw[E]at h;simp only at h;rw[A]at h;cases h⟩
theorem IJ:((aH y H).toNat:Int)=aH y H:=by
 unfold aH;split <;> simp
theorem Oy:(xh (Rb x)).map Kx=sx x:=by
 unfold xh sx;rw[V6];apply Ux;intro j a
 show(⟨((aH x.s j).toNat:Int),x.file,x.line,x.col+j⟩:Lt)=⟨aH x.s j,x.file,x.line,x.col+j⟩
 rw[IJ]
theorem F0:((jc i n H).flatMap xh).map Kx=ew i n H:=by
 unfold jc ew;rw[List.map_flatMap,Vo];congr 1
 funext t
 exact Oy t
def QM(T:List Tk)(S:List Sm)(l:List St)(a A:Nat)(x:ByteArray):Prop:=(jo l x a=none/\dM T S A x<0)∨∃n,jo l x a=some n/\n<l.length/\dM T S A x=(av S n:Nat)
section
variable {T:List Tk} {S:List Sm} {l:List St} {a A:Nat}
theorem PV(f:∀i j,i<l.length->j<l.length->av S i=av S j->i=j){d:List Nat}(c:∀b∈d,b<l.length)(g:b<l.length):ja d b=(d.map (av S)).contains (av S b):=by
 unfold ja;rw[Tu,SQ,UA,Tw];constructor
 ·rintro ⟨y,a,e⟩;have e:y=b:=by simpa using e
  exact⟨y,a,by rw[e]⟩
 ·rintro ⟨y,a,e⟩;exact⟨y,a,by rw[f y b (c y a) g e];simp⟩
theorem Lz(y:∀x,(x.toList == [])=false->QM T S l a A x)(w:∀q,q<T.length->((tS T q).toList == [])=false)(v:∀i j,i<l.length->j<l.length->av S i=av S j->i=j)(b z:Nat)(D:z<T.length)(m:Nat) :
  ∀k c,b+k+m=z->(∀n∈c,n<l.length) ->
  rk T S A z m (b+k) (c.map (av S))=qy T S (ng (mU (T.getD z gB)) (Bt (bW l a (mU (T.getD z gB)) k (jc T (b+k) z) c).1.2 ((jc T b z).drop (bW l a (mU (T.getD z gB)) k (jc T (b+k) z) c).1.1) ⟨(bW l a (mU (T.getD z gB)) k (jc T (b+k) z) c).2,[],[],0,false⟩)):=by
 induction m with
 | zero =>
  intro k c h f;rw[Ui]at h;rw[h,we,bW,rk];rfl
 | succ m C =>
  intro k c h f;have s:=yb T (b+k) z (by omega) (by omega);by_cases e:((tS T (b+k)).toList == [41])=true
  ·have d:bW l a (mU (T.getD z gB)) k (jc T (b+k) z) c=((k+1,cM),c):=(by rw[s,bW,RY e]);rw[d,rk,RY e];unfold jW;have o:DR (T.getD z gB)=Kx (0,mU (T.getD z gB)):=rfl;have g:Bt cM ((jc T b z).drop (k+1)) ⟨c,[],[],0,false⟩=Au ((jc T (b+k+1) z).flatMap xh) ⟨c,[],[],0,false⟩:=by
    unfold Bt;rw[RY (by rfl),DK,zT,UR]
   simp only;rw[g,o,<-F0];exact EP T S _ _ _ _ _ _ _ _ ⟨rfl,rfl,rfl,rfl,(fun x u=>by rw[mV]at u;cases u),R4 (by rw[mV];rfl),fun _=>mV⟩
  ·rw[rk,RU e];rcases y (tS T (b+k)) (w _ (by omega)) with ⟨r,o⟩ | ⟨n,r,t,o⟩
   ·have d:bW l a (mU (T.getD z gB)) k (jc T (b+k) z) c=((0,(2,mU (T.getD (b+k) gB))),c):=(by rw[s,bW,RU e,r]);rw[d,RY o];rfl
   ·rw[o,RU (by omega),SO,<-PV v f t];by_cases g:ja c n=true
    ·have d:bW l a (mU (T.getD z gB)) k (jc T (b+k) z) c=((0,(3,mU (T.getD (b+k) gB))),c):=(by rw[s,bW,RU e,r];exact RY g);rw[d,RY g];rfl
    ·have d:bW l a (mU (T.getD z gB)) k (jc T (b+k) z) c=bW l a (mU (T.getD z gB)) (k+1) (jc T (b+k+1) z) (c++[n]):=(by rw[s,bW,RU e,r];exact RU g);have p:∀i∈c++[n],i<l.length:=fun i B=>by
      rcases SB.1 B with h | h
      ·exact f i h
      ·rw[Se.1 h];exact t
     have:=C (k+1) (c++[n]) (by omega) p;rw[SF,show b+(k+1)=b+k+1 by omega]at this;rw[d,RU g];exact this
theorem OC(j:∀x,(x.toList == [])=false->QM T S l a A x)(i:∀q,q<T.length->((tS T q).toList == [])=false)(z:Nat)(o:z<T.length)(m:Nat) :
  ∀b c,b+m=z->l8 T S A z m b (c.map (rO T S))=qy T S (dP l a (mU (T.getD z gB)) (jc T b z) c):=by
 induction m with
 | zero =>
  intro b c h;rw[Ui]at h;rw[h,we,dP,l8,Sn];split <;> rfl
 | succ m g =>
  intro b c h;rw[yb T b z (by omega) (by omega),dP,l8];by_cases e:((tS T b).toList == [63])=true
  ·rw[RY e,RY e,<-g (b+1) (c++[(⟨1,0,mU (T.getD b gB)⟩:kK)]) (by omega),SF];rfl
  ·rw[RU e,RU e];rcases j (tS T b) (i _ (by omega)) with ⟨d,f⟩ | ⟨n,d,k,f⟩
   ·rw[d,RY f];rfl
   ·rw[d,f,RU (by omega)];simp only;rw[<-g (b+1) (c++[(⟨2,n,mU (T.getD b gB)⟩:kK)]) (by omega),SF];rfl
theorem IP(e:∀x,(x.toList == [])=false->QM T S l a A x)(d:∀q,q<T.length->((tS T q).toList == [])=false)(s:∀i j,i<l.length->j<l.length->av S i=av S j->i=j)(r:(aN l a).map (av S)=aZ T S A)(t:∀n∈aN l a,n<l.length)(v:b<o)(k:o<T.length)(f:((tS T o).toList == [36,46])=true)(c:m.Wp=jc T (b+1) o)(g:m.fin=mU (T.getD o gB)) :
  fF T S A b o=qy T S (dK l a m):=by
 unfold fF dK;have u:uA m=((tS T (b+1)).toList == [40]):=by
  unfold uA;rw[c];by_cases h:b+1<o
  ·rw[yb T (b+1) o h (by omega)]
  ·rw[show b+1=o by omega,we];rw[cm f];decide
 rw[u];split
 ·next h =>
  have w:b+1<o:=by
   by_cases p:b+1<o
   ·exact p
   ·rw[show b+1=o by omega,cm f]at h;exact absurd h (by decide)
  unfold jF kM yX;rw[g,c,<-r,DK];exact Lz e d s (b+1) o k (o-(b+2)) 1 (aN l a) (by omega) t
 ·rw[g,c];exact OC e d o k _ (b+1) [] (by omega)
end
def xW(R:List St)(a:Nat)(vs:List ByteArray)(k i j:Nat):Bool:=(List.range k).any (fun n=>ti R a n&&(bH vs (symsAt R n)).contains i&&(bH vs (symsAt R n)).contains j)
theorem CO(a:List Nat)(b:List Bool)(q:Nat)(c:q<b.length):(kP n H a b).getD q false=(b.getD q false||a.any (fun g=>H*n+g==q)):=by
 unfold kP
 induction a generalizing b with
 | nil=>simp
 | cons m a f =>
  simp only[List.foldl_cons,List.any_cons];rw[f (b.set (H*n+m) true) (by simpa using c)];by_cases e:H*n+m=q
  ·subst e;rw[RT,List.getElem?_set_self c];simp
  ·have d:(H*n+m==q)=false:=(by rw[Sp];exact e);rw[RT,List.getElem?_set_ne e,<-RT,d,Ts]
theorem CN(a r:List Nat)(b:List Bool)(q:Nat)(d:q<b.length):(r.foldl (fun b c=>kP H c a b) b).getD q false=(b.getD q false||r.any (fun c=>a.any (fun f=>c*H+f==q))):=by
 induction r generalizing b with
 | nil=>simp
 | cons m r e =>
  simp only[List.foldl_cons,List.any_cons];rw[e (kP H m a b) (by rw[qd];exact d),CO H m a b q d,US]
theorem CW{j a c:Nat}(e:c<b)(f:j<b)(h:a*b+c=o*b+j):a=o/\c=j:=by
 have d:(a*b+c) / b=a:=by rw[Nat.mul_comm,Nat.mul_add_div (by omega)];rw[Nat.div_eq_of_lt e];omega
 have g:(o*b+j) / b=o:=by rw[Nat.mul_comm,Nat.mul_add_div (by omega)];rw[Nat.div_eq_of_lt f];omega
 rw[h]at d;have:a=o:=by omega
 subst this;exact⟨rfl,by omega⟩
theorem Jq(k i j:Nat)(n:i<L.length)(e:j<L.length):(dr I N L k).getD (i*L.length+j) false=xW I N L k i j:=by
 have f:i*L.length+j<L.length*L.length:=zH n e
 induction k with
 | zero =>
  unfold xW;rw[dr,RT,TJ,RY f];rfl
 | succ k g =>
  have l:xW I N L (k+1) i j=(xW I N L k i j||(ti I N k&&(bH L (symsAt I k)).contains i&&(bH L (symsAt I k)).contains j)):=by
   unfold xW;rw[Ty,Wa];simp
  rw[l,dr];cases p:ti I N k
  ·simp only[Bool.false_eq_true,if_false,Bool.false_and,Bool.or_false];exact g
  ·simp only[if_true,Bool.true_and];unfold mh;rw[CN _ _ _ _ _ (by rw[mm];exact f),g];congr 1;rw[Tu];simp only[List.any_eq_true,Bool.and_eq_true,List.contains_iff_mem,beq_iff_eq];constructor
   ·rintro ⟨q,c,r,b,m⟩;obtain⟨o,d⟩:=Tg b;have a:=tN L (symsAt I k) o d.1;rw[d.2]at a;obtain⟨rfl,rfl⟩:=CW a e m;exact⟨c,b⟩
   ·rintro ⟨c,b⟩;exact⟨i,c,j,b,rfl⟩
theorem Iv(a:n<L.length)(b:H<L.length):fk L.length (gq I N L) n H=(!(n==H)&&xW I N L I.length n H):=by
 unfold fk gq;rw[Jq I N L I.length n H a b]
def nS(l N:List St)(a:Nat):List ByteArray:=((List.range N.length).filter (fun j=>Aq (l++N) a (l.length+j))).flatMap (symsAt N)
end Go.Proofs.YtnbhnocdhbcbcaaGreat
