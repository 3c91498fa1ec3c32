import Derived.Test.YtpdholcaobgofaaGreatP26
namespace Go.Proofs.YtpdholcaobgofaaGreat
open Go.RowKit Tryz
open Value IntKind Ending
set_option maxHeartbeats 0
variable{b k N:Nat}{g:Xr}{n:Xs}{z1:Db}{I:Fs}{m:LV}{L:List Tk×List Bool}{u:List Tk}{S:List St}(v:List Tk)(a:Tk)(p:List Tk)(z0:Db)(w:Fs)(H:Xr)(y:Int)(f:List St)(D:Nat)(x:Xs)(o l:Nat)(c:Pl)
def yM(t:Tk):Pl:=⟨t.ZbD,t.ZbE,t.ZbF⟩
def wdT(t:Tk):Xr×Pl:=(t.s,yM t)
def vI(T:List Tk)(b z:Nat):List (Xr×Pl):=((T.drop b).take (z-b)).map wdT
theorem WJ:vI p l l=[]:=by unfold vI;rw[YA,ZS];rfl
theorem Nk(a:l<=v.length):vI (v++p) o l=vI v o l:=by
 unfold vI;by_cases h:o<=v.length
 ·rw[YI h,YY (by rw[Ym];omega)]
 ·rw[show l-o=0 by omega,ZS,ZS]
theorem Ul(b:l<=v.length):vI (v++[a]) l (v++[a]).length=vI v l v.length++[wdT a]:=by
 unfold vI;rw[YI b,YV (by simp;omega),YV (by rw[Ym];exact Xy _),Yj];rfl
structure zj(T:List Tk)(d:Db):Prop where
 ne:∀q,q<T.length->((tS T q).toList == [])=false
 til:∀(n:Nat) (s:St),d.Zbv[n]?=some s->sU s.Zby=true->s.til=0
 pr:∀(n:Nat) (s:St),d.Zbv[n]?=some s->s.Zby=5->s.Zbp=vI T ((ay (aj T) (bF (aj T) n)).h+(bC T (ay (aj T) (bF (aj T) n)).h).length+1) ((ay (aj T) (bF (aj T) n)).z-1)/\s.ZbC=yM (T.getD ((ay (aj T) (bF (aj T) n)).z-1) kg)
 op:d.Zbp=if d.Zbi=true then vI T ((eQ T (fL T)).2+d.Zbe.length+1) T.length else []
section
variable {T:List Tk} {t:Tk} {d d':Db}
theorem zcg(B:Xs)(h:aN B ⟨#[36,61]⟩=true):(B.takeWhile kL).length<B.length:=by
 induction B with
 | nil=>cases h
 | cons x r c =>
  cases e:kL x
  ·rw[Zo (by rw[e];simp)];simp
  ·rw[Zc e];have b:aN r ⟨#[36,61]⟩=true:=by
    unfold aN at h ⊢;rw[ZO,Yo]at h;rcases h with h | h
    ·exfalso
     have a:x.toList=(⟨#[36,61]⟩:Xr).toList:=(by simpa using h);unfold kL at e;rw[a]at e;exact absurd e (by decide +kernel)
    ·exact h
   have:=c b;simp only[List.length_cons];omega
theorem zj.old(Q:zj T d)(R:jT T d){M:List Sm}{s a:St}(f:d.Zbv[b]?=some s)(e:bF (aj T++M) b=bF (aj T) b)(g:a.Zby=s.Zby)(i:a.Zbp=s.Zbp)(j:a.ZbC=s.ZbC)(l:a.Zby=5) :
  a.Zbp=vI (T++[t]) ((ay (aj T++M) (bF (aj T++M) b)).h+(bC (T++[t]) (ay (aj T++M) (bF (aj T++M) b)).h).length+1) ((ay (aj T++M) (bF (aj T++M) b)).z-1)/\a.ZbC=yM ((T++[t]).getD ((ay (aj T++M) (bF (aj T++M) b)).z-1) kg):=by
 have n:=(XL.1 f).1;have c:=R.hel.at_ n;obtain⟨o,p⟩:=Q.pr b s f (by rw[<-g];exact l);obtain⟨-,-,-,k⟩:=R.ct b s f;obtain⟨P,q⟩:=(fJ T).s _ c;have m:=P.lt;rw[e,kC _ _ _ c,i,j,sK T [t] _ k,Nk T [t] _ _ (by omega),o,p];refine⟨rfl,?_⟩;rw[Xw,Xw,XP (by omega)]
theorem zj.nes(Q:zj T d)(b:(t.s.toList == [])=false):∀q,q<(T++[t]).length->((tS (T++[t]) q).toList == [])=false:=fun q a=>by
 by_cases h:q<T.length
 ·rw[gI T [t] q h];exact Q.ne q h
 ·rw[XC,Z7]at a;rw[show q=T.length by omega,pW];exact b
theorem zj.Zbj(Q:zj T d)(R:jT T d)(j:(t.s.toList == [])=false)(g:cD t.s=false)(c:d'.Zbv=d.Zbv)(b:d'.Zbp=if d'.Zbi=true then vI (T++[t]) ((eQ (T++[t]) (fL T)).2+d'.Zbe.length+1) (T++[t]).length else []):zj (T++[t]) d':=by
 obtain⟨e,f⟩:=mY (T:=T) (t:=t) g;refine⟨Q.nes j,fun n s a=>?_,fun n s a i=>?_,by rw[f];exact b⟩
 ·rw[c]at a;exact Q.til n s a
 ·rw[c]at a;have:=Q.old (t:=t) R (M:=[]) a (by rw[Ya]) rfl rfl rfl i;rw[Ya]at this;rw[e];exact this
theorem zj.other(Q:zj T d)(R:jT T d)(q:(t.s.toList == [])=false)(j:Sm)(o:aj (T++[t])=aj T++[j])(b:∀(n:Nat) (c:St),d'.Zbv[n]?=some c->∃s,d.Zbv[n]?=some s/\c.Zby=s.Zby/\c.Zbp=s.Zbp/\c.ZbC=s.ZbC/\(sU s.Zby=true->c.til=s.til))(a:d'.Zbp=[]/\d'.Zbi=false):zj (T++[t]) d':=by
 refine⟨Q.nes q,fun n s i g=>?_,fun n s i p=>?_,by rw[a.1,a.2];rfl⟩
 ·obtain⟨u,e,f,-,-,m⟩:=b n s i;rw[f]at g;rw[m g];exact Q.til n u e g
 ·obtain⟨u,e,f,k,l,-⟩:=b n s i;rw[o];exact Q.old R e (R.hel.ix j (XL.1 e).1) f k l p
theorem zj.first(Q:zj T d)(R:jT T d)(f:(t.s.toList == [])=false)(x:fL T=T.length)(b:d.Zbi=false)(a:(aC d t.s).1=0):zj (T++[t]) (aC d t.s).2:=by
 have r:d.Zbp=[]:=by rw[Q.op,b];rfl
 have i:d.Zbp=if d.Zbi=true then vI (T++[t]) ((eQ (T++[t]) (fL T)).2+d.Zbe.length+1) (T++[t]).length else []:=by rw[r,b];rfl
 have e:∀(n:Nat) (c:St),d.Zbv[n]?=some c->∃s,d.Zbv[n]?=some s/\c.Zby=s.Zby/\c.Zbp=s.Zbp/\c.ZbC=s.ZbC/\(sU s.Zby=true->c.til=s.til):=fun n c h=>⟨c,h,rfl,rfl,rfl,fun _=>rfl⟩
 unfold aC at *;by_cases k:(t.s.toList == [36,123])=true
 ·rw[XA k];obtain⟨j,-⟩:=oO (T:=T) (t:=t) x (by rw[(kQ (dF k)).2.2];decide);exact Q.other R f _ j e ⟨r,b⟩
 rw[Xz k]at a ⊢;by_cases l:(t.s.toList == [36,125])=true
 ·rw[XA l]at a ⊢;cases A:d.ZbA.getLast? with
  | none=>rw[A]at a;cases a
  | some q =>
   simp only;obtain⟨j,-⟩:=oO (T:=T) (t:=t) x (by rw[(kQ (dF l)).2.2];decide);refine Q.other R f _ j (fun n c g=>?_) (by unfold cZ dI;split <;> exact⟨r,b⟩);unfold cZ dI at g;split at g
   ·exact e n c g
   ·obtain⟨v,B,C⟩:=qA g;refine⟨v,B,?_⟩;rw[C];split
    ·unfold ma;split
     ·next h=>exact⟨rfl,rfl,rfl,fun w=>by rw[h.2]at w;cases w⟩
     ·exact⟨rfl,rfl,rfl,fun _=>rfl⟩
    ·exact⟨rfl,rfl,rfl,fun _=>rfl⟩
 rw[Xz l]at a ⊢;by_cases m:(t.s.toList == [36,99])=true
 ·rw[XA m]at a ⊢;by_cases y:0<d.ZbA.length
  ·rw[XA y]at a;cases a
  ·rw[Xz y];exact Q.Zbj R f (gu m (by decide)) rfl i
 rw[Xz m]at a ⊢;by_cases o:(t.s.toList == [36,118])=true
 ·rw[XA o];exact Q.Zbj R f (gu o (by decide)) rfl i
 rw[Xz o]at a ⊢;by_cases p:(t.s.toList == [36,100])=true
 ·rw[XA p];exact Q.Zbj R f (gu p (by decide)) rfl i
 rw[Xz p]at a ⊢;split at a
 ·cases a
 ·next z =>
  rw[Xz z];unfold bS at *;cases u:dO t.s
  ·rw[u,Xz (by simp)]at a;split at a
   ·cases a
   ·next D =>
    split at a
    ·cases a
    ·next E =>
     rw[Xz (by simp),Xz D,Xz E];exact Q.Zbj R f (tX u) rfl i
  ·rw[u,XA rfl]at a;cases a
theorem zj.key(Q:zj T d)(R:jT T d)(c:(t.s.toList == [])=false)(b:d.Zbi=false)(a:(aJ d t.s).1=0):zj (T++[t]) (aJ d t.s).2:=by
 have k:d.Zbp=[]:=by rw[Q.op,b];rfl
 have e:d.Zbp=if d.Zbi=true then vI (T++[t]) ((eQ (T++[t]) (fL T)).2+d.Zbe.length+1) (T++[t]).length else []:=by rw[k,b];rfl
 unfold aJ at *;split
 ·next h=>exact Q.Zbj R c (gu h (by decide)) rfl e
 ·next f =>
  rw[Xz f]at a;split
  ·next h=>exact Q.Zbj R c (gu h (by decide)) rfl e
  ·next g =>
   rw[Xz g]at a;split
   ·next h=>exact Q.Zbj R c (gu h (by decide)) rfl e
   ·next i =>
    rw[Xz i]at a;split
    ·next h=>exact Q.Zbj R c (gu h (by decide)) rfl e
    ·next j=>rw[Xz j]at a;cases a
theorem zj.body(Q:zj T d)(R:jT T d)(y:(t.s.toList == [])=false)(I:eQ T (fL T)=(g,b))(x:fL T<b)(G:b<=T.length)(C:fC g.toList d.Zby)(N:fM T b T.length=n)(v:d.Zbi=aN n ⟨#[36,61]⟩)(p:d.Zbe=n.takeWhile kL)(c:(aY d t.s (yM t)).1=0):zj (T++[t]) (aY d t.s (yM t)).2:=by
 have w:(eQ (T++[t]) (fL T)).2=b:=by rw[qF I x G C]
 have f:=Q.op;rw[I]at f;simp only at f;have E:n.length=T.length-b:=by rw[<-N,nD,XZ,Ym]
 have F:d.Zbi=true->b+d.Zbe.length+1<=T.length:=fun h=>by
  have:=zcg n (by rw[<-v];exact h);rw[<-p]at this;omega
 rw[qS C]at *;by_cases A:(t.s.toList == [36,46])=true
 ·rw[XA A]at *;obtain⟨U,-⟩:=EI A;obtain⟨z,-⟩:=po T t;rw[XA U,qF I x G C]at z;simp only at z;have o:bC (T++[t]) b=d.Zbe:=by
   unfold bC;rw[YI G,vU _ t (fun u V=>?_) A,p,<-N,nD];have:=xL T b (by omega) u V;unfold cD at this;simp only[Bool.or_eq_false_iff]at this;exact this.1.1
  unfold l9 at *;split at c
  ·cases c
  ·next P =>
   rw[Xz P];split at c
   ·cases c
   ·next m =>
    rw[Xz m];simp only;cases a:((d.Zby==7)||(d.Zby==8))
    ·simp only[Bool.or_eq_false_iff]at a;have D:(aW d (yM t)).Zbv=d.Zbv++[⟨d.Zby,d.Zbz,d.Zbe,d.Zbp,yM t,0⟩]:=by
      unfold aW om jg;rw[a.1,a.2];simp only[Bool.false_eq_true,if_false];split <;> rfl
     have L:pa (aj T++[(⟨fL T,T.length+1,b,g⟩:Sm)]) (aj T).length=true:=(by rw[wA];show _=true;rw[GS C,a.1,a.2];rfl);have M:∀{k:Nat} {s:St},(aW d (yM t)).Zbv[k]?=some s->d.Zbv[k]?=some s∨(k=d.Zbv.length/\s=⟨d.Zby,d.Zbz,d.Zbe,d.Zbp,yM t,0⟩):=fun {k s} j=>by
      rw[D]at j;by_cases J:k<d.Zbv.length
      ·rw[XP J]at j;exact XQ j
      ·have e:k=d.Zbv.length:=by
        have:=(XL.1 j).1;rw[XC,Z7]at this;omega
       subst e;rw[XO (Xy _),YA]at j;exact XK ⟨rfl,(Zaj j).symm⟩
     refine⟨Q.nes y,fun k s j S=>?_,fun k s j l=>?_,rfl⟩
     ·rcases M j with h | ⟨-,h⟩
      ·exact Q.til k s h S
      ·rw[h]
     ·rw[z];rcases M j with h | ⟨J,h⟩
      ·exact Q.old R h (R.hel.ix _ (XL.1 h).1) rfl rfl rfl l
      ·subst J;have O:bF (aj T++[(⟨fL T,T.length+1,b,g⟩:Sm)]) d.Zbv.length=(aj T).length:=by
        unfold bF;rw[oP,XA L,R.hel.len,Xw,XO (Xy _),YA];rfl
       rw[O,mu];simp only;rw[h]at l ⊢;simp only at l ⊢;have H:d.Zbi=true:=by
        cases e:d.Zbi
        ·exact absurd ⟨by rw[l];rfl,e⟩ m
        ·rfl
       rw[o,Za,Nk T [t] _ _ (Xy _),f,H,XA rfl];refine⟨rfl,?_⟩;rw[Xw,XO (Xy _),YA];rfl
    ·have D:(aW d (yM t)).Zbv=d.Zbv:=by
      unfold aW eK;rw[Yo]at a;split
      ·rfl
      ·next q=>rw[XA (a.resolve_left q)]
     exact Q.other R y _ z (fun k W h=>⟨W,by rw[<-D];exact h,rfl,rfl,rfl,fun _=>rfl⟩) ⟨rfl,rfl⟩
 ·rw[Xz A]at *;by_cases r:(t.s.toList == [36,61])=true/\(d.Zby==5)=true/\d.Zbi=false
  ·rw[XA r]at *;unfold cr at *;split at c
   ·cases c
   ·next i =>
    rw[Xz i];refine Q.Zbj R y (gu r.1 (by decide)) rfl ?_;show d.Zbp=if true=true then _ else _;rw[XA rfl,f,r.2.2,Xz (by simp),w];have K:aN n ⟨#[36,61]⟩=false:=by rw[<-v];exact r.2.2
    have:d.Zbe.length=T.length-b:=(by rw[p,wo n K,E]);show _=vI (T++[t]) (b+d.Zbe.length+1) (T++[t]).length;rw[this,XC,Z7,show b+(T.length-b)+1=T.length+1 by omega,WJ]
  ·rw[Xz r]at *;cases B:dO t.s
   ·rw[B,Xz (by simp)]at c;rw[Xz (by simp)];split at c
    ·next i =>
     rw[XA i];refine Q.Zbj R y (tX B) rfl ?_;show d.Zbp++[(t.s,yM t)]=if d.Zbi=true then _ else _;rw[f,XA i,XA i,w];exact(Ul T t _ (F i)).symm
    ·next i =>
     rw[Xz i];split at c
     ·next m =>
      rw[XA m];refine Q.Zbj R y (tX B) rfl ?_;show d.Zbp=if d.Zbi=true then _ else _;rw[f,Xz i,Xz i]
     ·next m=>simp only at c;rw[c]at m;exact absurd rfl m
   ·rw[B,XA rfl]at c;cases c
theorem zj.step(Q:zj T d)(m:xb T d)(R:jT T d)(i:(t.s.toList == [])=false)(c:(aY d t.s (yM t)).1=0):zj (T++[t]) (aY d t.s (yM t)).2:=by
 rcases m with ⟨k,f,b,a,l⟩ | ⟨k,f,b,a,l,r,q⟩ | ⟨v,j,B,f,g,p,o,n,a,b,u,l,w⟩
 ·have e:aY d t.s (yM t)=aC d t.s:=by unfold aY;rw[f];rfl
  rw[e]at c ⊢;exact Q.first R i k a c
 ·have e:aY d t.s (yM t)=aJ d t.s:=by unfold aY;rw[f];rfl
  rw[e]at c ⊢;exact Q.key R i a c
 ·exact Q.body R i f g p o n a b c
end
theorem za1(h:z1=⟨[],[],[],[],[],[],[],[],0,⟨#[]⟩,[],false,[]⟩):zj [] z1:=by
 subst h;exact⟨fun q a=>(by simp at a),(fun n s h=>by cases h),(fun n s h=>by cases h),rfl⟩
section
variable {T:List Tk} {t:Tk} {d:Db}
structure un(T:List Tk)(d:Db):Prop where
 e:vL T (aj T) d
 o:xb T d
 u:∀j,j<T.length->bG T (aj T) j=0
 b:kZ T=(d.ZbA.length:Int)
 r:jT T d
 f:uD d
 p:zj T d
 c:yR d
theorem Gi(T:List Tk)(t:Tk):kZ (T++[t])=aV (kZ T) t.s:=by
 unfold kZ;rw[ZA];rfl
theorem un.step(I:un T d)(n:T.length<=100000)(G:(t.s.toList == [])=false)(p:Pl)(K:p=yM t):bG (T++[t]) (aj (T++[t])) T.length=(aY d t.s p).1/\((aY d t.s p).1=0->un (T++[t]) (aY d t.s p).2):=by
 obtain⟨A,v⟩:=ET T n I.u;have w:=FW T t n I.u;have i:bG (T++[t]) (aj (T++[t])) T.length=(aY d t.s p).1/\((aY d t.s p).1=0->vL (T++[t]) (aj (T++[t])) (aY d t.s p).2/\xb (T++[t]) (aY d t.s p).2):=by
  rcases I.o with ⟨q,k,g,a,l⟩ | ⟨q,k,g,a,l,y,x⟩ | ⟨i,E,B,k,m,F,D,C,a,g,z,l,H⟩
  ·have e:aY d t.s p=aC d t.s:=(by unfold aY;rw[k];rfl);rw[w,XA q.symm,e];exact Lo A v I.e q k g a l G
  ·have e:aY d t.s p=aJ d t.s:=(by unfold aY;rw[k];rfl);obtain⟨N,O⟩:=TI (t:=t) A v I.e q g a l y x;rw[w,Xz (by omega),N,XA (by simp),e];exact O
  ·rw[w,Xz (by omega),qF k m F D,Xz (by simp only;omega)];simp only;rw[C];exact PG A v I.e k m F D C a g z l H p
 refine⟨i.1,fun h=>?_⟩;obtain⟨L,M⟩:=i.2 h;refine⟨L,M,fun j J=>?_,?_,jT.step I.o I.e I.u I.r n p h,uD.step I.o I.e I.r I.f p h,by rw[K]at h ⊢;exact I.p.step I.o I.r G h,I.c.take t.s p⟩
 ·rw[XC,Ye,Yn]at J;by_cases e:j<T.length
  ·exact uX T [t] n I.u j e
  ·have e:j=T.length:=(by omega);rw[e,i.1];exact h
 ·rw[Gi,I.b,IW I.o t.s p h]
theorem MD(T:List Tk)(h:0<T.length):∃u,T.getLast?=some u/\u.s=tS T (T.length-1):=by
 rw[Zq,Xv (by omega)];refine⟨_,rfl,?_⟩;unfold tS;rw[Xw,Xv (by omega)];rfl
theorem un.open(I:un T d):lU d=!dR T:=by
 have p:=fJ T;have t:=I.b;have a:fL T<T.length->dR T=false:=fun h=>by
  obtain⟨u,i,j⟩:=MD T (by omega);have:=p.n (T.length-1) (by unfold fL at h;omega) (by omega);unfold dR;rw[i];simp only;rw[j,this];rfl
 unfold lU;rcases I.o with ⟨D,g,f,c,x⟩ | ⟨D,g,f,c,x,H,G⟩ | ⟨r,w,B,g,E,M,m,L,c,f,J,x,K⟩
 ·rw[g];have y:(bne (0:Int) 0)=false:=rfl;rw[y,Y7];by_cases C:T.length=0
  ·have e:T=[]:=XY C;rw[e]at t ⊢;have:d.ZbA.length=0:=by
    have h:kZ []=0:=rfl;omega
   rw[this];rfl
  ·obtain⟨u,i,j⟩:=MD T (by omega);have F:0<(aj T).length:=by
    rcases Nat.eq_zero_or_pos (aj T).length with h | h
    ·have:=Kw T;rw[h]at this;unfold lX at this;rw[Xz (by omega)]at this;omega
    ·exact h
   have q:(ay (aj T) ((aj T).length-1)).z=T.length:=by
    have:=Kw T;unfold lX at this;rw[XA F]at this;omega
   have v:=(p.s ((aj T).length-1) (by omega)).1.e;rw[q]at v;unfold dR;rw[i];simp only;rw[j,v,Y0,t];by_cases q:d.ZbA.length=0
   ·rw[q];rfl
   ·have A:((d.ZbA.length:Int)==0)=false:=Za4 (by omega);rw[A,YX (show 0<d.ZbA.length by omega)];rfl
 ·rw[g,a (by omega)];rfl
 ·rw[a (by omega)];have:(d.Zby != 0)=true:=by
   generalize d.Zby=k at m ⊢;generalize r.toList=l at m
   (rcases m with ⟨rfl,rfl⟩ | ⟨rfl,rfl⟩ | ⟨rfl,rfl⟩ | ⟨rfl,rfl⟩ | ⟨rfl,rfl⟩ | ⟨rfl,rfl⟩ | ⟨rfl,rfl⟩) <;> rfl
  rw[this];rfl
theorem Rx{d:Db}(h:d=⟨[],[],[],[],[],[],[],[],0,⟨#[]⟩,[],false,[]⟩):un [] d:=by
 subst h;refine⟨⟨rfl,fun x=>rfl,⟨rfl,rfl,fun i a=>(by simp at a)⟩,⟨rfl,rfl,fun i a=>(by simp at a)⟩⟩,xb.none rfl rfl rfl rfl rfl,fun j b=>(by simp at b),rfl,⟨pZ.nil,(fun n s h=>by cases h),rfl⟩,⟨(fun n s h=>by cases h),(fun n m s u h=>by cases h),fun h=>by cases h⟩,za1 rfl,yR.empty rfl⟩
end
section
variable (rec:Nat->List Bool->List Tk->List Tk×List Bool) (fs:Fs)
theorem MY(t:Tk)(r:List Tk)(b:List Bool)(a:List Tk)(h:((t.ZbG==0)&&(t.s.toList == []))=true):dr rec fs (t :: r) b a=((if dR a=true then a else a++[uG t 7]),b):=by
 rw[dr.eq_def];exact XA h
theorem AY(t:Tk)(r:List Tk)(b:List Bool)(a:List Tk)(h:((t.ZbG==0)&&(t.s.toList == []))=false)(c:(t.s.toList == [36,91])=false):dr rec fs (t :: r) b a=dr rec fs r b (a++[t]):=by
 rw[dr.eq_def];simp only;rw[Xz (by rw[h];simp),XA c]
theorem Ta(t:Tk)(r:List Tk)(b:List Bool)(a:List Tk)(h:((t.ZbG==0)&&(t.s.toList == []))=false)(c:(t.s.toList == [36,91])=true)(d:dR a=false):dr rec fs (t :: r) b a=(a++[uG t 4],b):=by
 rw[dr.eq_def];simp only;rw[Xz (by rw[h];simp),Xz (by rw[c];simp),XA d]
theorem MZ(t a:Tk)(c:List Bool)(b:List Tk)(h:((t.ZbG==0)&&(t.s.toList == []))=false)(d:(t.s.toList == [36,91])=true)(e:dR b=true):dr rec fs [t,a] c b=(b++[uG a (dX fs a.s a.ZbG)],c):=by
 rw[dr.eq_def];simp only;rw[Xz (by rw[h];simp),Xz (by rw[d];simp),Xz (by rw[e];simp)]
theorem M0(t a b:Tk)(r:List Tk)(d:List Bool)(c:List Tk)(h:((t.ZbG==0)&&(t.s.toList == []))=false)(e:(t.s.toList == [36,91])=true)(f:dR c=true):dr rec fs (t :: a :: b :: r) d c =
  if(dX fs a.s a.ZbG==0)=false then(c++[uG a (dX fs a.s a.ZbG)],d)
  else if(eN b.s b.ZbG==0)=false then(c++[uG b (eN b.s b.ZbG)],d)
  else if d.getD (bV fs a.s).toNat true=true then dr rec fs r d c
  else if fD (rec (bV fs a.s).toNat d c).1=true then rec (bV fs a.s).toNat d c
  else dr rec fs r (rec (bV fs a.s).toNat d c).2 (rec (bV fs a.s).toNat d c).1:=by
 rw[dr.eq_def];simp only;rw[Xz (by rw[h];simp),Xz (by rw[e];simp),Xz (by rw[f];simp)]
theorem E6(g:∀j d c,∃V,(rec j d c).1=c++V)(n:Nat):∀L,L.length<=n->∀d c,∃V,(dr rec fs L d c).1=c++V:=by
 induction n with
 | zero =>
  intro L f d c;have:L=[]:=XY (by omega);subst this;exact⟨[],by rw[dr.eq_def];simp⟩
 | succ n m =>
  intro L f d c;cases L with
  | nil=>exact⟨[],by rw[dr.eq_def];simp⟩
  | cons t r =>
   simp only[List.length_cons]at f;cases h:((t.ZbG==0)&&(t.s.toList == []))
   ·cases e:(t.s.toList == [36,91])
    ·rw[AY rec fs t r d c h e];obtain⟨V,k⟩:=m r (by omega) d (c++[t]);exact⟨t :: V,by rw[k];simp⟩
    ·cases i:dR c
     ·rw[Ta rec fs t r d c h e i];exact⟨_,rfl⟩
     ·match r,f with
      | [],_ =>
       refine⟨[],?_⟩;rw[dr.eq_def];simp only;rw[Xz (by rw[h];simp),Xz (by rw[e];simp),Xz (by rw[i];simp)];simp
      | [a],_=>rw[MZ rec fs t a d c h e i];exact⟨_,rfl⟩
      | a :: b :: r',f =>
       simp only[List.length_cons]at f;rw[M0 rec fs t a b r' d c h e i];split
       ·exact⟨_,rfl⟩
       ·split
        ·exact⟨_,rfl⟩
        ·split
         ·exact m r' (by omega) d c
         ·obtain⟨V,k⟩:=g (bV fs a.s).toNat d c;split
          ·exact⟨V,k⟩
          ·obtain⟨o,l⟩:=m r' (by omega) (rec (bV fs a.s).toNat d c).2 (rec (bV fs a.s).toNat d c).1;exact⟨V++o,by rw[l,k];simp⟩
   ·rw[MY rec fs t r d c h];simp only;split
    ·exact⟨[],by simp⟩
    ·exact⟨_,rfl⟩
end
theorem xP(n:Nat):∀j b a,∃V,(fh w n j b a).1=a++V:=by
 induction n with
 | zero=>intro j b a;exact⟨[],by simp[fh]⟩
 | succ n c=>intro j b a;rw[fh];exact E6 (fh w n) w c _ _ (Xy _) _ _
def Np(L:List Tk):Prop:=∀t∈L,t.ZbG=0
structure SnB(fs:Fs)(bg sn:List Bool):Prop where
 b:bg.length=4
 s:sn.length=fs.length
 e:∀j,j<fs.length->bg.getD j true=sn.getD j true
theorem SnB.set{a c:List Bool}(h:SnB I a c)(d:I.length<=4)(k:Nat)(g:k<I.length):SnB I (a.set k true) (c.set k true):=by
 refine⟨by rw[Yq];exact h.b,by rw[Yq];exact h.s,fun j f=>?_⟩;have:=h.b;have:=h.s;rw[Xw,Xw,Yv,Yv];by_cases e:k=j
 ·rw[XA e,XA e,XA (by omega),XA (by omega)]
 ·rw[Xz e,Xz e];have:=h.e j f;rw[Xw,Xw]at this;exact this
def uo(fs:Fs)(N:Nat)(res:LV)(R:List Tk×List Bool):Prop :=
 (res.1=dJ/\un R.1 res.2.2/\Np R.1/\SnB fs res.2.1 R.2/\R.1.length+1025*a8 R.2<=N) ∨
 (∃(W:List Tk) (u:Tk) (d:Db),R.1=W++[u]/\(u.ZbG==0)=false/\un W d/\Np W/\res.1=(u.ZbG,yM u)) ∨
 ∃(W:List Tk) (t:Tk) (V:List Tk) (d:Db) (r:Int),R.1=W++t :: V/\t.ZbG=0/\un W d/\W.length+1<=N/\bG (W++[t]) (aj (W++[t])) W.length=r/\(r==0)=false/\res.1=(r,yM t)
theorem uo.good(a:m.1=dJ)(c:un L.1 m.2.2)(d:Np L.1)(e:SnB I m.2.1 L.2)(f:L.1.length+1025*a8 L.2<=b):uo I b m L:=XQ ⟨a,c,d,e,f⟩
theorem uo.ends(c:L.1=v++[a])(d:(a.ZbG==0)=false)(e:un v z0)(f:Np v)(g:m.1=(a.ZbG,yM a)):uo I b m L:=XK (XQ ⟨v,a,z0,c,d,e,f,g⟩)
theorem uo.ZbG(c:L.1=v++a :: p)(d:a.ZbG=0)(e:un v z0)(f:v.length+1<=b)(g:bG (v++[a]) (aj (v++[a])) v.length=y)(i:(y==0)=false)(j:m.1=(y,yM a)):uo I b m L:=XK (XK ⟨v,a,p,z0,y,c,d,e,f,g,i,j⟩)
theorem CF(h:Np u):fD u=false:=by
 unfold fD;cases e:u.getLast? with
 | none=>rfl
 | some t =>
  have:=h t (List.mem_of_getLast? e);simp[this]
theorem xJ(k:Nat)(a:k<=H.size):(aQ (aF H k).1=true->((aF H k).1.text.toList == [])=false/\(aF H k).1.ZbG=0)/\(aQ (aF H k).1=false->(aF H k).1.text=⟨#[]⟩/\((aF H k).1.ZbC=true->(aF H k).1.ZbG=0)):=by
 have d:∀f k,k<=H.size->aQ (cN H f k).1=false->(cN H f k).1.text=⟨#[]⟩/\((cN H f k).1.ZbC=true->(cN H f k).1.ZbG=0):=by
  intro f
  induction f with
  | zero=>intro k _ _;exact⟨rfl,fun h=>by cases h⟩
  | succ f g =>
   intro k a h;have c:=iQ H k a;rw[cN]at h ⊢;split
   ·next e =>
    rw[XA e]at h;split
    ·exact⟨rfl,fun h=>by cases h⟩
    ·next b =>
     rw[Xz b]at h;exact g _ c.2.1 h
   ·next e =>
    rw[Xz e]at h;split
    ·exact⟨rfl,fun h=>by cases h⟩
    ·next b =>
     rw[Xz b]at h;exact(wT H k a).2 h
 unfold aF
 suffices hs:∀f k,k<=H.size->(aQ (eJ H f k).1=true->((eJ H f k).1.text.toList == [])=false/\(eJ H f k).1.ZbG=0)/\(aQ (eJ H f k).1=false->(eJ H f k).1.text=⟨#[]⟩/\((eJ H f k).1.ZbC=true->(eJ H f k).1.ZbG=0)) from hs _ _ a
 clear a k;intro f
 induction f with
 | zero=>intro k a;exact⟨fun h=>by simp[eJ,aQ]at h,fun _=>⟨rfl,fun _=>rfl⟩⟩
 | succ f g =>
  intro k a;have c:=iQ H k a;have i:=kt H (bQ H k).2 c.2.1;rw[eJ];split
  ·split
   ·exact g _ i.2
   ·next b =>
    refine⟨fun h=>absurd h b,fun h=>?_⟩;exact d _ _ c.2.1 h
  ·exact wT H k a
theorem Oz(h:(y==0)=false):dX w H y=y:=by unfold dX;exact XA h
theorem OB(h:y=0)(a:H=⟨#[]⟩):dX w H y=7:=by
 subst h a;unfold dX;rw[Xz (by simp),XA rC]
theorem Kp(h:y=0)(a:(H.toList == [])=false):dX w H y=if dO H=true then 5 else if bV w H<0 then 6 else 0:=by
 subst h;unfold dX;rw[Xz (by simp),Xz (by rw[a];simp),jx]
theorem JL(h:(y==0)=false):eN H y=y:=by unfold eN;exact XA h
theorem JM(h:y=0)(a:H=⟨#[]⟩):eN H y=7:=by
 subst h a;unfold eN;rw[Xz (by simp),XA rC]
theorem FZ(h:y=0)(a:(H.toList == [])=false):eN H y=if(H.toList == [36,93])=false then 5 else 0:=by
 subst h;unfold eN;rw[Xz (by simp),Xz (by rw[a];simp)]
theorem Tc(ar:w.length<=4)(az:∀j,j<w.length->(ak w j).size<=1024)(f:Nat):∀n x k c y d b N,x<w.length->k<=(ak w x).size->SnB w c y->a8 y<=n ->
  ((ak w x).size-k+1)+1025*a8 y<=f->un b d->Np b->b.length+((ak w x).size-k+1)+1025*a8 y<=N->N<=100000 ->
  uo w N (bI w f x k c d) (dr (fh w n) w (nW (aI w x) (ak w x) k) y b):=by
 induction f with
 | zero=>intro n x k c y d b N _ _ _ _ h;omega
 | succ f ih =>
  intro n x k c y d b N hx hk hS hn hf K T hN U;have hl:=gU (ak w x) k hk;obtain⟨t1,t2⟩:=xJ (ak w x) k hk;have C:=K.open;cases D:aQ (aF (ak w x) k).1
  ·-- the ZbD ends,or a word's stead is taken
   obtain⟨x1,x2⟩:=t2 D;rw[lL _ _ k D];cases F:(aF (ak w x) k).1.ZbC
   ·have hr:((aF (ak w x) k).1.ZbG==0)=false:=lS D F;have P:((nG (aI w x) (ak w x) (aF (ak w x) k).1).ZbG==0&&((nG (aI w x) (ak w x) (aF (ak w x) k).1).s.toList == []))=false:=(by simp only[nG];rw[hr];rfl);have e2:((nG (aI w x) (ak w x) (aF (ak w x) k).1).s.toList == [36,91])=false:=(by simp only[nG];rw[x1];decide +kernel);rw[AY _ _ _ _ _ _ P e2,Ao w f x k c d D (by rw[F];simp)];refine uo.ends b _ d (by rw[dr.eq_def]) hr K T ?_;simp[j8,F,nG,yM,mn]
   ·have P:((nG (aI w x) (ak w x) (aF (ak w x) k).1).ZbG==0&&((nG (aI w x) (ak w x) (aF (ak w x) k).1).s.toList == []))=true:=(by simp only[nG];rw[x1,x2 F,rC];rfl);rw[MY _ _ _ _ _ _ P];cases Q:dR b
    ·rw[Q]at C;rw[Ao w f x k c d D (by rw[C];simp)];refine uo.ends b (uG (nG (aI w x) (ak w x) (aF (ak w x) k).1) 7) d (by simp) rfl K T ?_;simp[j8,F,nG,yM,mn,uG]
    ·rw[Q]at C;rw[Es w f x k c d D F C];exact uo.good rfl (by simp only[if_true];exact K) (by simp only[if_true];exact T) hS (by simp only[if_true];omega)
  ·have av:=hl.2.2 D;obtain⟨x1,x2⟩:=t1 D;rw[lM _ _ k hk D];have P:((nG (aI w x) (ak w x) (aF (ak w x) k).1).ZbG==0&&((nG (aI w x) (ak w x) (aF (ak w x) k).1).s.toList == []))=false:=(by simp only[nG];rw[x1];simp);cases hi:((aF (ak w x) k).1.text.toList == [36,91])
   ·-- a word is taken
    rw[AY _ _ _ _ _ _ P (by exact hi)];have J:iy w f x k c d=((if((aY d (aF (ak w x) k).1.text (mn (aI w x) (ak w x) (aF (ak w x) k).1.pos)).1==0)=true then dJ else((aY d (aF (ak w x) k).1.text (mn (aI w x) (ak w x) (aF (ak w x) k).1.pos)).1,mn (aI w x) (ak w x) (aF (ak w x) k).1.pos),c,(aY d (aF (ak w x) k).1.text (mn (aI w x) (ak w x) (aF (ak w x) k).1.pos)).2),(aF (ak w x) k).2):=by
     unfold iy lA;rw[hi];simp
    obtain⟨g1,g2⟩:=K.step (t:=nG (aI w x) (ak w x) (aF (ak w x) k).1) (by omega) x1 (mn (aI w x) (ak w x) (aF (ak w x) k).1.pos) rfl;have e3:(nG (aI w x) (ak w x) (aF (ak w x) k).1).s=(aF (ak w x) k).1.text:=rfl;rw[e3]at g1 g2;cases h2:((aY d (aF (ak w x) k).1.text (mn (aI w x) (ak w x) (aF (ak w x) k).1.pos)).1==0)
    ·rw[rr w f x k c d D (by rw[J,h2];simpa using h2),J,h2];obtain⟨V,hV⟩:=E6 (fh w n) w (xP w n) _ _ (Xy _) y (b++[nG (aI w x) (ak w x) (aF (ak w x) k).1]);exact uo.ZbG b (nG (aI w x) (ak w x) (aF (ak w x) k).1) V d _ (by rw[hV];simp) x2 K (by omega) g1 h2 (by simp[nG,yM,mn])
    ·rw[CZ w f x k c d D (by rw[J,h2];rfl),J];refine ih n x _ c y _ _ N hx hl.2.1 hS hn (by omega) (g2 (by simpa using h2)) ?_ (by simp;omega) U;intro u hu;rcases X9.1 hu with hu | hu
     ·exact T u hu
     ·rw[XH.1 hu];exact x2
   ·-- an inclusion
    have J:iy w f x k c d=pG (dn w f) w x (aF (ak w x) k).2 (mn (aI w x) (ak w x) (aF (ak w x) k).1.pos) c d:=by
     unfold iy lA;rw[hi,XA rfl]
    have p:∀(W:List Tk) (u:Tk) (fl:sB),vj w x (aF (ak w x) k).2 (mn (aI w x) (ak w x) (aF (ak w x) k).1.pos) d=.inl fl->fl=(u.ZbG,yM u)->(u.ZbG==0)=false->uo w N (bI w (f+1) x k c d) (b++[u],y):=fun W u fl af e h0=>by
     have e2:pG (dn w f) w x (aF (ak w x) k).2 (mn (aI w x) (ak w x) (aF (ak w x) k).1.pos) c d=((fl,c,d),(aF (ak w x) k).2):=by
      unfold pG;rw[af]
     rw[rr w f x k c d D (by rw[J,e2,e];exact h0),J,e2];exact uo.ends b u d rfl h0 K T e
    cases Q:dR b
    ·rw[Q]at C;rw[Ta _ _ _ _ _ _ P (by exact hi) Q];exact p b (uG (nG (aI w x) (ak w x) (aF (ak w x) k).1) 4) _ (by unfold vj;rw[XA (by rw[C];rfl)];rfl) rfl rfl
    ·rw[Q]at C;have v:¬lU d=true:=(by rw[C];simp);obtain⟨z,hz⟩:∃z,z=(aF (ak w x) k).2:=⟨_,rfl⟩
     rw[<-hz]at hl av J p ⊢;have ha:=gU (ak w x) z hl.2.1;obtain⟨a1,a2⟩:=xJ (ak w x) z hl.2.1;cases g:aQ (aF (ak w x) z).1
     ·obtain⟨y1,y2⟩:=a2 g;rw[lL _ _ z g,MZ _ _ _ _ _ _ P (by exact hi) Q];have O:dX w (nG (aI w x) (ak w x) (aF (ak w x) z).1).s (nG (aI w x) (ak w x) (aF (ak w x) z).1).ZbG=if(aF (ak w x) z).1.ZbC=true then 7 else(aF (ak w x) z).1.ZbG:=by
       cases B:(aF (ak w x) z).1.ZbC
       ·exact Oz w _ _ (lS g B)
       ·exact OB w _ _ (y2 B) y1
      refine p b _ _ (by unfold vj;rw[Xz v,XA g]) (by simp only[j8,uG,yM];rw[O];rfl) ?_;simp only[uG];rw[O];cases B:(aF (ak w x) z).1.ZbC
      ·exact lS g B
      ·rfl
     ·have ao:=ha.2.2 g;obtain⟨y1,y2⟩:=a1 g;obtain⟨o,I⟩:∃o,o=(aF (ak w x) z).2:=⟨_,rfl⟩
      rw[lM _ _ z hl.2.1 g,<-I];rw[<-I]at ha ao;have X:=gU (ak w x) o ha.2.1;obtain⟨b1,b2⟩:=xJ (ak w x) o ha.2.1;obtain⟨tl,Y⟩:∃tl,nW (aI w x) (ak w x) o=nG (aI w x) (ak w x) (aF (ak w x) o).1 :: tl:=by
       cases i:aQ (aF (ak w x) o).1
       ·exact⟨[],lL _ _ o i⟩
       ·exact⟨_,lM _ _ o ha.2.1 i⟩
      rw[Y,M0 _ _ _ _ _ _ _ _ P (by exact hi) Q];have O:dX w (nG (aI w x) (ak w x) (aF (ak w x) z).1).s (nG (aI w x) (ak w x) (aF (ak w x) z).1).ZbG=if dO (aF (ak w x) z).1.text=true then 5 else if bV w (aF (ak w x) z).1.text<0 then 6 else 0:=by
       exact Kp w _ _ y2 y1
      rw[O];have aq:(nG (aI w x) (ak w x) (aF (ak w x) z).1).s=(aF (ak w x) z).1.text:=rfl;rw[aq];cases H:dO (aF (ak w x) z).1.text
      ·by_cases E:bV w (aF (ak w x) z).1.text<0
       ·simp only[Bool.false_eq_true,if_false,if_pos E];rw[XA (show((6:Int)==0)=false from rfl)];exact p b _ _ (by unfold vj;rw[Xz v,Xz (by rw[g];simp),Xz (by rw[H];simp),XA E];rfl) rfl rfl
       ·simp only[Bool.false_eq_true,if_false,if_neg E];rw[Xz (show ¬((0:Int)==0)=false by decide)];have ap:eN (nG (aI w x) (ak w x) (aF (ak w x) o).1).s (nG (aI w x) (ak w x) (aF (ak w x) o).1).ZbG=if aQ (aF (ak w x) o).1=false then(if(aF (ak w x) o).1.ZbC=true then 7 else(aF (ak w x) o).1.ZbG) else if((aF (ak w x) o).1.text.toList == [36,93])=false then 5 else 0:=by
         cases i:aQ (aF (ak w x) o).1
         ·obtain⟨y3,y4⟩:=b2 i;rw[XA rfl];cases B:(aF (ak w x) o).1.ZbC
          ·exact JL _ _ (lS i B)
          ·exact JM _ _ (y4 B) y3
         ·obtain⟨y3,y4⟩:=b1 i;rw[Xz (by simp)];exact FZ _ _ y4 y3
        rw[ap];cases i:aQ (aF (ak w x) o).1
        ·rw[XA rfl];have ag:((if(aF (ak w x) o).1.ZbC=true then 7 else(aF (ak w x) o).1.ZbG)==0)=false:=by
          cases B:(aF (ak w x) o).1.ZbC
          ·exact lS i B
          ·rfl
         rw[XA ag];exact p b _ _ (by unfold vj;rw[Xz v,Xz (by rw[g];simp),Xz (by rw[H];simp),Xz E,<-I,XA i];rfl) rfl ag
        ·simp only[Bool.true_eq_false,if_false];cases ad:((aF (ak w x) o).1.text.toList == [36,93])
         ·rw[XA rfl,XA (show((5:Int)==0)=false from rfl)];exact p b _ _ (by unfold vj;rw[Xz v,Xz (by rw[g];simp),Xz (by rw[H];simp),Xz E,<-I,Xz (by rw[i];simp),XA ad];rfl) rfl rfl
         ·simp only[Bool.true_eq_false,if_false];rw[Xz (show ¬((0:Int)==0)=false by decide)]
          -- the ZbD is named
          have aT:=X.2.2 i;have al:tl=nW (aI w x) (ak w x) (aF (ak w x) o).2:=by
           rw[lM _ _ o ha.2.1 i]at Y;exact(List.cons.inj Y).2.symm
          rw[al];obtain⟨j,hj⟩:∃j,j=(bV w (aF (ak w x) z).1.text).toNat:=⟨_,rfl⟩
          have M:j<w.length:=by
           rcases sP (aF (ak w x) z).1.text w with h | ⟨q,hq,h⟩
           ·rw[h]at E;omega
           ·rw[hj,h,YO];exact hq
          rw[<-hj];have l:iy w f x k c d=(dn w f j c d,(aF (ak w x) o).2):=by
           rw[J];unfold pG vj;rw[Xz v,Xz (by rw[g];simp),Xz (by rw[H];simp),Xz E,<-I,Xz (by rw[i];simp),Xz (by rw[ad];simp),<-hj]
          have G:=hS.e j M;cases L:c.getD j true
          ·rw[L]at G;have ax:y[j]?=some false:=by
            have:=hS.s;rw[Xv (by omega)];rw[Xw,Xv (by omega)]at G;exact congrArg some G.symm
           have a0:=nu y j ax;rw[Xz (by rw[<-G];simp)];have A:dn w f j c d=bI w f j 0 (c.set j true) d:=(by unfold dn;rw[L,Xz (by simp)]);obtain⟨m,hm⟩:∃m,n=m+1:=⟨n-1,by omega⟩
           have er:fh w n j y b=dr (fh w m) w (nW (aI w j) (ak w j) 0) (y.set j true) b:=(by rw[hm,fh,DF]);have aS:=az j M;have R1:=ih m j 0 (c.set j true) (y.set j true) d b (b.length+1025*a8 y) M (XX _) (hS.set ar j M) (by omega) (by omega) K T (by omega) (by omega);rw[<-er,<-A]at R1;have ai:=xP w n j y b;generalize fh w n j y b=S at *;rcases R1 with ⟨Z,R,r3,r4,r5⟩ | ⟨W,u,d0,Z,R,r3,r4,r5⟩ | ⟨W,t,V,d0,r,Z,R,r3,r4,r5,r6,r7⟩
           ·rw[CF r3,Xz (by simp),CZ w f x k c d D (by rw[l,Z];rfl),l];have a3:a8 S.2<=a8 y:=by
             obtain⟨V,hV⟩:=ai;rw[hV,XC]at r5;omega
            exact ih n x _ _ S.2 _ S.1 N hx X.2.1 r4 (by omega) (by simp only;omega) R r3 (by simp only;omega) U
           ·have ac:fD S.1=true:=(by unfold fD;rw[Z,Zy];simp only;rw[R];rfl);rw[ac,XA rfl,rr w f x k c d D (by rw[l,r5];exact R),l];exact uo.ends W u d0 Z R r3 r4 r5
           ·rw[rr w f x k c d D (by rw[l,r7];exact r6),l];cases ac:fD S.1
            ·rw[Xz (by simp)];obtain⟨V2,am⟩:=E6 (fh w n) w (xP w n) _ (nW (aI w x) (ak w x) (aF (ak w x) o).2) (Xy _) S.2 S.1;exact uo.ZbG W t (V++V2) d0 r (by rw[am,Z];simp) R r3 (by omega) r5 r6 r7
            ·rw[XA rfl];exact uo.ZbG W t V d0 r Z R r3 (by omega) r5 r6 r7
          ·rw[L]at G;have A:dn w f j c d=(dJ,c,d):=(by unfold dn;rw[L,XA rfl]);rw[XA G.symm,CZ w f x k c d D (by rw[l,A];rfl),l,A];exact ih n x _ c y d b N hx X.2.1 hS hn (by omega) K T (by omega) U
      ·simp only[if_true];rw[XA (show((5:Int)==0)=false from rfl)];exact p b _ _ (by unfold vj;rw[Xz v,Xz (by rw[g];simp),XA H];rfl) rfl rfl
def Rr(t:Tk):sB:=(t.ZbG,yM t)
def gO(fs:Fs)(k:Nat):sB :=
 if((CQ (dd fs k).1 (aj (dd fs k).1)).ZbG==0)=false then Rr (CQ (dd fs k).1 (aj (dd fs k).1)) else Rr (dd fs k).2
theorem Mp(h:un u z1):CQ u (aj u)=kg:=WX h.u
theorem Af(k:w.length<=4)(q:∀j,j<w.length->(ak w j).size<=1024)(o:l<w.length) :
  (cK w l).1=gO w l/\(((cK w l).1.1==0)=true->un (dd w l).1 (cK w l).2.2/\(dd w l).1.length<=10000):=by
 have i:SnB w Mf (List.replicate w.length false):=⟨rfl,by simp,fun j n=>by
  rw[Xw,Xw,Y4,XA n]
  match j,(show j<4 by omega) with
  | 0,_=>rfl
  | 1,_=>rfl
  | 2,_=>rfl
  | 3,_=>rfl⟩
 have p:(List.replicate w.length false)[l]?=some false:=by rw[Y4,XA o]
 have A:=nu _ l p;rw[pt]at A;have D:=q l o;have H:cK w l=bI w 5000 l 0 (Mf.set l true) gF:=by
  unfold cK dn;rw[i.e l o,Xw,p];rfl
 have I:fh w w.length l (List.replicate w.length false) []=dr (fh w (w.length-1)) w (nW (aI w l) (ak w l) 0) ((List.replicate w.length false).set l true) []:=by
  obtain⟨m,K⟩:∃m,w.length=m+1:=⟨w.length-1,by omega⟩
  have:w.length-1=m:=by omega
  rw[this]
  conv=>lhs;rw[show fh w w.length=fh w (m+1) by rw[K]]
  rw[fh,DF]
 have C:=Tc w k q 5000 (w.length-1) l 0 (Mf.set l true) ((List.replicate w.length false).set l true) gF [] 5000 o (XX _) (i.set k l o) (by omega) (by omega) (Rx rfl) (fun t L=>by cases L) (by simp only[List.length_nil];omega) (by omega);rw[<-H,<-I]at C;have s:(fh w w.length l (List.replicate w.length false) []).1=sw w l:=rfl;generalize fh w w.length l (List.replicate w.length false) []=N at *;unfold gO dd;rcases C with ⟨b,d,f,E,g⟩ | ⟨W,u,G,b,d,f,E,g⟩ | ⟨W,t,V,G,r,b,d,f,E,g,B,F⟩
 ·rw[s]at d f g;simp only[CF f,Bool.false_eq_true,if_false];rw[Mp d,Xz (by decide)];exact⟨b,fun _=>⟨d,by omega⟩⟩
 ·rw[s]at b;have a:fD (sw w l)=true:=by unfold fD;rw[b,Zy];simp only;rw[d];rfl
  rw[a,XA rfl,b,List.dropLast_concat,Zy];simp only[Option.getD_some];rw[Mp f,Xz (by decide)];exact⟨g,fun h=>by rw[g]at h;simp only at h;rw[d]at h;cases h⟩
 ·rw[s]at b;obtain⟨c,x⟩:∃c,(if fD (sw w l)=true then((sw w l).dropLast,(sw w l).getLast?.getD kg) else(sw w l,kg)).1=(W++[t])++c:=by
   cases a:fD (sw w l)
   ·rw[Xz (by simp)];exact⟨V,by simp only;rw[b];simp⟩
   ·rw[XA rfl];cases V with
    | nil =>
     unfold fD at a;rw[b,Zy]at a;simp only[d]at a;cases a
    | cons v V=>exact⟨(v :: V).dropLast,by simp only;rw[b,List.dropLast_append_of_ne_nil (by simp),List.dropLast_cons_of_ne_nil (by simp)];simp⟩
  rw[x];have M:=uX W (t :: c) (by omega) f.u;have y:=zS (W++[t]) c (by simp;omega) W.length (by simp) (fun j n=>uX W [t] (by omega) f.u j n);rw[g]at y
  have z:=Ri (T:=(W++[t])++c) (S:=aj ((W++[t])++c)) (k:=W.length) (by simp) (by rw[y];exact B) (fun j n=>by
   have:=M j n;rw[show W++t :: c=(W++[t])++c by simp]at this;exact this)
  have J:((W++[t])++c).getD W.length kg=t:=by
   rw[Xw,Y2,XO (Xy _),YA];simp
  rw[z,y,J];simp only;rw[XA B];exact⟨F,fun h=>by rw[F]at h;simp only at h;rw[B]at h;cases h⟩
def Se(x:Xr×Pl):List (Nat×Pl):=(List.range x.1.size).map (fun j=>((aL x.1 j).toNat,{ x.2 with ZbF:=x.2.ZbF+j }))
def J3:List (Nat×Pl)->nC->sB×nC
 | [],c=>(dJ,c)
 | x :: r,c=>if((cG c x.1 x.2).1==0)=true then J3 r (cG c x.1 x.2).2 else(((cG c x.1 x.2).1,x.2),(cG c x.1 x.2).2)
theorem Vn(A B:List (Nat×Pl)):∀c,J3 (A++B) c=if((J3 A c).1.1==0)=true then J3 B (J3 A c).2 else J3 A c:=by
 induction A with
 | nil=>intro c;rw[ZJ,J3,XA (by rfl)]
 | cons x r a =>
  intro c;rw[Zt,J3,J3];split
  ·exact a _
  ·rfl
theorem LL(k:Nat):∀f j a,j+k=H.size->k<f->iA H c f j a=J3 ((List.range' j k).map (fun j=>((aL H j).toNat,{ c with ZbF:=c.ZbF+j }))) a:=by
 induction k with
 | zero =>
  intro f j a h d;cases f with
  | zero=>omega
  | succ f=>rw[iA,Xz (by omega)];rfl
 | succ k e =>
  intro f j a h d;cases f with
  | zero=>omega
  | succ f =>
   rw[iA,XA (by omega),List.range'_succ,Zu,J3,e f (j+1) _ (by omega) (by omega)]
theorem Un(x:Xr×Pl)(c:nC):nB x.1 x.2 c=J3 (Se x) c:=by
 unfold nB Se;rw[LL x.1 x.2 x.1.size _ 0 c (by omega) (by omega),List.range_eq_range']
theorem Qi(a:List (Xr×Pl)):∀c,rR a c=J3 (a.flatMap Se) c:=by
 induction a with
 | nil=>intro c;rfl
 | cons x r b =>
  intro c;obtain⟨t,p⟩:=x;rw[rR,Yz,Vn,Un (t,p) c,b]
def UF(l:List St)(a n:Nat):Prop:=∃s,l[n]?=some s/\(s.Zby==1)=false/\iI l n a=true
def GdS(l:List St)(a i:Nat)(s:oI):Prop:=(s.Zby=3/\s.Zbf<i)∨(s.Zby=2/\UF l a s.Zbf)
theorem UF.lt(h:UF S b k):k<S.length:=by
 obtain⟨s,h,-⟩:=h;exact(XL.1 h).1
def Jm(l:List St)(a:Nat)(L:List oI):Prop:=∀i s,L[i]?=some s->s.Zby=1∨GdS l a i s
theorem Jm.snoc{L:List oI}{s:oI}(h:Jm S b L)(f:s.Zby=1∨GdS S b L.length s):Jm S b (L++[s]):=fun i x a=>by
 by_cases d:i<L.length
 ·rw[XP d]at a;exact h i x a
 ·have c:=(XL.1 a).1;rw[XC,Z7]at c;have e:i=L.length:=by omega
  subst e;rw[XO (Xy _),YA]at a;rw[<-Zaj a];exact f
theorem Jm.nil:Jm f l []:=fun i s h=>by cases h
theorem Gu(h:mV S g b=some k):UF S b k:=by
 unfold mV at h;have a:=Zd h;unfold qj at a;split at a
 ·next s c =>
  simp only[Bool.and_eq_true,Bool.not_eq_true']at a;exact⟨s,c,a.1.2,a.2⟩
 ·cases a
theorem Vt(h:k∈aM S b):UF S b k:=by
 unfold aM eF at h;have a:=(Yt.1 h).2;unfold og at a;split at a
 ·next s e =>
  rw[XU]at a;refine⟨s,e,?_,a.1⟩;have c:=a.2;unfold rZ at c;split at c
  ·next d =>
   have:s.Zby=2:=(by simpa using d);rw[this];rfl
  ·have:s.Zby=3:=(by simpa using c);rw[this];rfl
 ·cases a
theorem Sq(e:List (Xr×Pl)):∀a,Jm S b a->Jm S b (gy S b c e a).1:=by
 induction e with
 | nil=>intro a h;rw[gy];split;exact Jm.nil S b;exact h
 | cons x r d =>
  intro a h;obtain⟨t,p⟩:=x;rw[gy];split
  ·exact d _ (h.snoc (XQ rfl))
  ·split
   ·exact Jm.nil S b
   ·next n f=>exact d _ (h.snoc (XK (XK ⟨rfl,Gu f⟩)))
structure Nq(l:List St)(a:Nat)(c:nC):Prop where
 n:∀x∈c.ZbB,UF l a x
 t:∀x∈c.Zbr,x<c.steps.length
 s:Jm l a c.steps
 b:c.behind=true->0<c.steps.length
theorem CX{L:Xu}(h:b<L.length):L.getD b 0∈L:=by
 rw[Xw,Xv h];exact XM h
theorem Nq.let{c:nC}(h:Nq S b c)(n:Nat)(p:Pl):Nq S b (cG c n p).2:=by
 have d:∀x,x<c.steps.length->∀s:oI,x<(c.steps++[s]).length:=fun x a s=>by rw[XC];omega
 unfold cG;split
 ·unfold lB fc;split
  ·next e=>exact⟨h.n,fun x a=>d x (h.t x a) _,h.s.snoc (XK (XK ⟨rfl,h.n _ (CX e)⟩)),fun _=>by simp⟩
  ·split
   ·next e=>exact⟨h.n,fun x a=>d x (h.t x a) _,h.s.snoc (XK (XQ ⟨rfl,h.t _ (CX e)⟩)),fun _=>by simp⟩
   ·exact⟨h.n,h.t,h.s,h.b⟩
 ·split
  ·unfold nX;split <;> exact⟨h.n,h.t,h.s,fun h=>by cases h⟩
  ·split
   ·next f =>
    refine⟨h.n,fun x a=>?_,h.s,fun h=>by cases h⟩;rcases X9.1 a with a | a
    ·exact h.t x a
    ·have:=h.b f.2;have:=XH.1 a;show x<c.steps.length;omega
   ·split
    ·exact⟨h.n,fun x a=>d x (h.t x a) _,h.s.snoc (XQ rfl),fun h=>by cases h⟩
    ·exact h
theorem Vo(X:List (Nat×Pl)):∀c,Nq S b c->Nq S b (J3 X c).2:=by
 induction X with
 | nil=>intro c h;exact h
 | cons x r a =>
  intro c h;rw[J3];split
  ·exact a _ (h.let _ _)
  ·exact h.let _ _
theorem NI(e:List (Xr×Pl)):∀i d,(∀x∈d,UF S b x)->∀x∈(dN S b c i e d).2,UF S b x:=by
 induction e with
 | nil=>intro i d h;exact h
 | cons y r g =>
  intro i d h;obtain⟨t,p⟩:=y;rw[dN];split
  ·exact h
  ·split
   ·exact h
   ·next n f =>
    split
    ·exact h
    ·refine g _ _ (fun x a=>?_);rcases X9.1 a with a | a
     ·exact h x a
     ·rw[XH.1 a];exact Gu f
theorem V7(s:St):Jm f l (lY f l s).1:=by
 unfold lY;split
 ·unfold mM we Gb;split
  ·split
   ·split
    ·exact Jm.nil f l
    ·have b:Nq f l ⟨(dN f l s.ZbC 1 (s.Zbp.drop 1) (aM f l)).2,[],[],0,false⟩:=⟨NI _ _ _ _ (fun x a=>Vt a),(fun x a=>by cases a),Jm.nil f l,fun h=>by cases h⟩
     unfold Kv;split
     ·rw[Qi];exact(Vo _ _ b).s
     ·exact b.s
   ·exact Jm.nil f l
  ·exact Jm.nil f l
 ·exact Sq _ _ _ (Jm.nil f l)
theorem zbZ(h:UF S b k):k<b:=by
 obtain⟨s,c,-,a⟩:=h;unfold iI at a;rw[c]at a;simp only[Bool.and_eq_true,decide_eq_true_eq]at a;exact a.1
def Cx(R:List St)(a:Nat)(vs:Xs)(k i j:Nat):Bool:=(List.range k).any (fun n=>wh R a n&&(bR vs (symsAt R n)).contains i&&(bR vs (symsAt R n)).contains j)
theorem G6(a:Xu)(b:List Bool)(q:Nat)(c:q<b.length):(me o l a b).getD q false=(b.getD q false||a.any (fun g=>l*o+g==q)):=by
 unfold me
 induction a generalizing b with
 | nil=>simp
 | cons m a f =>
  simp only[List.foldl_cons,List.any_cons];rw[f (b.set (l*o+m) true) (by simpa using c)];by_cases e:l*o+m=q
  ·subst e;rw[Xw,List.getElem?_set_self c];simp
  ·have d:(l*o+m==q)=false:=(by rw[X6];exact e);rw[Xw,List.getElem?_set_ne e,<-Xw,d,Y7]
theorem G3(a r:Xu)(b:List Bool)(q:Nat)(d:q<b.length):(r.foldl (fun b c=>me l c a b) b).getD q false=(b.getD q false||r.any (fun c=>a.any (fun f=>c*l+f==q))):=by
 induction r generalizing b with
 | nil=>simp
 | cons m r e =>
  simp only[List.foldl_cons,List.any_cons];rw[e (me l m a b) (by rw[s9];exact d),G6 l m a b q d,Z3]
theorem Ia{a c:Nat}(e:c<b)(f:N<b)(h:a*b+c=k*b+N):a=k/\c=N:=by
 have d:(a*b+c) / b=a:=by rw[ZF,Za5 (by omega)];rw[ZaZ e];omega
 have g:(k*b+N) / b=k:=by rw[ZF,Za5 (by omega)];rw[ZaZ f];omega
 rw[h]at d;have:a=k:=by omega
 subst this;exact⟨rfl,by omega⟩
theorem Ox(k i j:Nat)(o:i<x.length)(e:j<x.length):(dP f D x k).getD (i*x.length+j) false=Cx f D x k i j:=by
 have g:i*x.length+j<x.length*x.length:=Dz o e
 induction k with
 | zero =>
  unfold Cx;rw[dP,Xw,Y4,XA g];rfl
 | succ k l =>
  have m:Cx f D x (k+1) i j=(Cx f D x k i j||(wh f D k&&(bR x (symsAt f k)).contains i&&(bR x (symsAt f k)).contains j)):=by
   unfold Cx;rw[YG,Za6];simp
  rw[m,dP];cases q:wh f D k
  ·simp only[Bool.false_eq_true,if_false,Bool.false_and,Bool.or_false];exact l
  ·simp only[if_true,Bool.true_and];unfold nO;rw[G3 _ _ _ _ _ (by rw[lT];exact g),l];congr 1;rw[Ze];simp only[List.any_eq_true,Bool.and_eq_true,List.contains_iff_mem,beq_iff_eq];constructor
   ·rintro ⟨r,c,s,b,n⟩;obtain⟨p,d⟩:=Yr b;have a:=wJ x (symsAt f k) p d.1;rw[d.2]at a;obtain⟨rfl,rfl⟩:=Ia a e n;exact⟨c,b⟩
   ·rintro ⟨c,b⟩;exact⟨i,c,j,b,rfl⟩
theorem Ny(a:o<x.length)(b:l<x.length):fE x.length (ii f D x) o l=(!(o==l)&&Cx f D x f.length o l):=by
 unfold fE ii;rw[Ox f D x f.length o l a b]
theorem Am{α:Type}(l:Xu)(f g:Nat->List α)(h:∀x∈l,f x=g x):l.flatMap f=l.flatMap g:=by
 induction l with
 | nil=>rfl
 | cons a l c=>rw[Yz,Yz,h a (by simp),c (fun x b=>h x (Yf _ b))]
def nS(l N:List St)(a:Nat):Xs:=((List.range N.length).filter (fun j=>Em (l++N) a (l.length+j))).flatMap (symsAt N)
def prL(vs:Xs)(A:Nat->Nat->Bool):List Pr:=(List.range vs.length).flatMap (fun i=>((List.range vs.length).filter (fun j=>decide (i<j)&&A i j)).map (fun j=>(gD vs i,gD vs j)))
theorem za6:OW x (ii f D x)=prL x (fun i j=>!(i==j)&&Cx f D x f.length i j):=by
 unfold OW xM prL pT;refine Am _ _ _ (fun i a=>?_);have a:=XI.1 a;congr 1;exact Z9 (fun j b=>by rw[Ny f D x i j a (XI.1 b)])
section
variable {T:List Tk} {d:Db}
theorem jT.vars(R:jT T d)(F:FlE T (aj T))(q:b<d.Zbv.length):fX d.Zbv (aM d.Zbv b)=jV T (aj T) (bW T (aj T) (bF (aj T) b)) (bW T (aj T) (bF (aj T) b)).length:=by
 unfold jV;rw[Yl,<-R.hyps F q];unfold fX;have a:∀n∈aM d.Zbv b,n<d.Zbv.length:=fun n i=>by
  unfold aM eF at i;exact XI.1 (Yt.1 i).1
 generalize aM d.Zbv b=L at a
 induction L with
 | nil=>rfl
 | cons n L j =>
  obtain⟨s,r,f,-,g⟩:=R.get (a n (by simp));have p:=R.hel.at_ (a n (by simp));rw[List.filterMap_cons,Zu,List.filter_cons];unfold pu;rw[r];simp only;rw[(fQ f).2.1];cases e:((ay (aj T) (bF (aj T) n)).k.toList == [36,102])
  ·rw[Xz (by simp),Xz (by simp)];exact j (fun m c=>a m (by simp[c]))
  ·obtain⟨l,o⟩:=F _ p e;have t:aB s=tS T ((ay (aj T) (bF (aj T) n)).h+1):=by
    unfold aB;rw[XA ⟨by rw[(fQ f).2.1];exact e,by rw[g];exact l⟩,g,o]
   rw[XA rfl,XA rfl,Zu,<-t];show aB s :: _=_;congr 1;exact j (fun m c=>a m (by simp[c]))
def vK(vs:Xs):Prop:=∀i j,i<j->j<vs.length->((vs.getD i ⟨#[]⟩).toList==(vs.getD j ⟨#[]⟩).toList)=false
theorem vK.ne(h:vK n){i j:Nat}(b:i<n.length)(c:j<n.length)(d:i≠j):((n.getD i ⟨#[]⟩).toList==(n.getD j ⟨#[]⟩).toList)=false:=by
 rcases Nat.lt_or_gt_of_ne d with a | a
 ·exact h i j a c
 ·have:=h j i a b;rw[X6]at this ⊢;exact fun e=>this e.symm
theorem rG(h:vK n)(a:b<n.length)(x:Xr):bZ n x=some b ↔ ((n.getD b ⟨#[]⟩).toList==x.toList)=true:=by
 unfold bZ;constructor
 ·intro e;have:=Zd e;simpa using this
 ·intro e;rw[Zay];refine⟨e,b,by rw[YW];exact a,by rw[Zam],fun j f=>?_⟩;rw[Zam];have:=h.ne (i:=j) (j:=b) (by omega) a (by omega);simp only[Bool.not_eq_true',beq_eq_false_iff_ne];rw[X6]at this;intro c;have d:(n.getD b ⟨#[]⟩).toList=x.toList:=by simpa using e
  exact this (c.trans d.symm)
theorem zs(h:vK n)(d:b<n.length)(f:Xs):(bR n f).contains b=aN f (n.getD b ⟨#[]⟩):=by
 unfold bR aN;rw[Ze,Z6,ZaH,Yu];constructor
 ·rintro ⟨x,c,e⟩;have:=(rG h d x).1 e;refine⟨x,c,?_⟩;have a:(n.getD b ⟨#[]⟩).toList=x.toList:=by simpa using this
  rw[a];exact beq_self_eq_true _
 ·rintro ⟨x,c,e⟩;refine⟨x,c,(rG h d x).2 ?_⟩;have a:x.toList=(n.getD b ⟨#[]⟩).toList:=by simpa using e
  rw[a];exact beq_self_eq_true _
theorem jT.tog(R:jT T d)(p:b<d.Zbv.length)(h:vK n)(y:k<n.length)(u:N<n.length)(t:k<N):Cx d.Zbv b n d.Zbv.length k N=jq T (aj T) (n.getD k ⟨#[]⟩) (n.getD N ⟨#[]⟩) (bF (aj T) b):=by
 have B:=R.hel.len;have C:=R.hel.at_ p;have v:=h k N t u;unfold Cx jq;rw[Ze,Yu,Yu];constructor
 ·rintro ⟨l,a,e⟩;have a:=XI.1 a;obtain⟨s,j,i,-,A⟩:=R.get a;simp only[Bool.and_eq_true]at e;obtain⟨⟨c,m⟩,o⟩:=e;rw[zs h y,R.symsAt a]at m;rw[zs h u,R.symsAt a]at o;unfold wh at c;rw[j]at c;simp only[Bool.and_eq_true]at c;have x:((ay (aj T) (bF (aj T) l)).k.toList == [36,100])=true:=by rw[<-(fQ i).2.2.1];exact c.1
  have g:sU s.Zby=false:=by rw[(fQ i).2.2.2,dm x,dm x];decide
  have r:=c.2;rw[R.held j g p,XU]at r;refine⟨bF (aj T) l,XI.2 (of_decide_eq_true r.1),?_⟩;unfold apP;rw[x,v,m,o,r.2];rfl
 ·rintro ⟨q,w,e⟩;have w:=XI.1 w;unfold apP at e;simp only[Bool.and_eq_true]at e;obtain⟨c,-,m,o,z⟩:=e;have f:q∈nU (aj T):=Yt.2 ⟨XI.2 (by omega),by unfold pa;rw[c];simp⟩;rw[AW]at f;obtain⟨l,a,rfl⟩:=YN.1 f;have a:l<d.Zbv.length:=by rw[B];exact XI.1 a
  obtain⟨s,j,i,-,A⟩:=R.get a;have g:sU s.Zby=false:=by rw[(fQ i).2.2.2,dm c,dm c];decide
  refine⟨l,XI.2 a,?_⟩;rw[zs h y,zs h u,R.symsAt a,m,o];unfold wh;rw[j];simp only;rw[(fQ i).2.2.1,c,R.held j g p,z,YX w];rfl
theorem jT.pairs(R:jT T d)(F:FlE T (aj T))(f:b<d.Zbv.length)(g:vK (fX d.Zbv (aM d.Zbv b))):ph d.Zbv b=jX T (aj T) (bF (aj T) b):=by
 unfold ph jX;rw[za6,<-R.vars F f];generalize fX d.Zbv (aM d.Zbv b)=a at g;unfold prL nQ mo;apply Am;intro i c;have c:=XI.1 c;have e:(List.range a.length).filter (fun j=>decide (i<j)&&(!(i==j)&&Cx d.Zbv b a d.Zbv.length i j))=(List.range a.length).filter (fun j=>decide (i<j)&&jq T (aj T) (a.getD i ⟨#[]⟩) (a.getD j ⟨#[]⟩) (bF (aj T) b)):=by
  apply fy;intro j k;by_cases h:i<j
  ·have:(i==j)=false:=X6.2 (by omega);rw[R.tog f g c k h,this];simp
  ·rw[YB h];rfl
 rw[e];rfl
def MG(T:List Tk)(S:List Sm)(j:Nat):Xr:=(bC T (ay S j).h).foldl (fun s x=>s++⟨#[32]⟩++x) (bP T (ay S j)++⟨#[32]⟩++(ay S j).k)
def Kg(T:List Tk)(S:List Sm)(a:Nat):Xs:=(bW T S a).map (MG T S)++(jX T S a).map Hz++[MG T S a]
theorem GC(L:Xs):∀s:Xr,L.foldl (fun t x=>t++(⟨#[32]⟩++x)) s=L.foldl (fun s x=>s++⟨#[32]⟩++x) s:=by
 induction L with
 | nil=>intro s;rfl
 | cons x L a=>intro s;rw[ZZ,ZZ,a,ByteArray.append_assoc]
theorem R6{n:Int}(h:fC g.toList n)(a:n=2∨n=3∨n=4∨n=5):zb3 n=g:=by
 apply tT;generalize g.toList=l at h;rcases a with rfl | rfl | rfl | rfl <;> rcases h with ⟨rfl,h⟩ | ⟨rfl,h⟩ | ⟨rfl,h⟩ | ⟨rfl,h⟩ | ⟨rfl,h⟩ | ⟨rfl,h⟩ | ⟨rfl,h⟩ <;> first | (exfalso;revert h;decide) | decide +kernel
theorem jT.ZbE(R:jT T d)(i:b<d.Zbv.length)(f:∀s,d.Zbv[b]?=some s->s.Zby=2∨s.Zby=3∨s.Zby=4∨s.Zby=5):MF d.Zbv b=MG T (aj T) (bF (aj T) b):=by
 obtain⟨s,a,c,g,e⟩:=R.get i;unfold MF MG;rw[a];simp only;unfold Xf Sc;rw[Yl,e,g,R6 c (f s a),GC]
theorem jT.lines(R:jT T d)(F:FlE T (aj T))(e:b<d.Zbv.length)(l:vK (fX d.Zbv (aM d.Zbv b)))(k:∀s,d.Zbv[b]?=some s->sU s.Zby=true):Kf d.Zbv b=Kg T (aj T) (bF (aj T) b):=by
 unfold Kf Kg;rw[R.pairs F e l,<-R.hyps F e,Zat,R.ZbE e (fun s g=>by have:=k s g;unfold sU at this;simp at this;omega)];congr 2;apply YU;intro n j;unfold aM eF at j;have a:=Yt.1 j;have f:=XI.1 a.1;refine R.ZbE f (fun s g=>?_);have c:=a.2;unfold og rZ at c;rw[g]at c;simp only[Bool.and_eq_true]at c;have i:=c.2;split at i
 ·next q=>left;simpa using q
 ·right;left;simpa using i
theorem uD.vsd(F:uD d):vK (fX d.Zbv (aM d.Zbv b)):=by
 have E:(aM d.Zbv b).Pairwise (fun n m=>n<m/\n∈aM d.Zbv b/\m∈aM d.Zbv b):=by
  have h:(aM d.Zbv b).Pairwise (· < ·):=List.Pairwise.filter _ Zau;exact h.imp_of_mem (fun z A B=>⟨B,z,A⟩)
 have G:(fX d.Zbv (aM d.Zbv b)).Pairwise (fun x y=>(x.toList==y.toList)=false):=by
  unfold fX;refine List.Pairwise.filterMap _ (fun n m h x a y H=>?_) E;obtain⟨r,o,D⟩:=h;have l:∀n x,n∈aM d.Zbv b->pu d.Zbv n=some x->∃s,d.Zbv[n]?=some s/\s.Zby=2/\x=vr s/\iI d.Zbv n b=true:=fun n x o a=>by
   unfold pu at a;cases g:d.Zbv[n]? with
   | none=>rw[g]at a;cases a
   | some s =>
    rw[g]at a;simp only at a;split at a
    ·next k =>
     have w:s.Zby=2:=(by simpa using k);have C:=Y5 (F.fl n s g w).symm;have e:aB s=vr s:=(by unfold aB vr;rw[XA ⟨k,C⟩]);refine⟨s,rfl,w,by rw[<-e];cases a;rfl,?_⟩;unfold aM eF at o;have:=(Yt.1 o).2;unfold og at this;rw[g]at this;simp only[Bool.and_eq_true]at this;exact this.1
    ·cases a
  obtain⟨s,g,I,rfl,c⟩:=l n x o a;obtain⟨u,v,J,rfl,f⟩:=l m y D H;refine F.ds n m s u g v I J r ?_;unfold iI at c f;rw[g]at c;rw[v]at f;simp only[Bool.and_eq_true,Bool.or_eq_true,decide_eq_true_eq]at c f;rcases c.2 with q | q
  ·left;simpa using q
  ·right;have:=f.1;omega
 intro i j p t;have:=ZaN.1 G i j (by omega) t p;rw[Xw,Xw,Xv t,Xv (by omega)];exact this
theorem jT.frame(R:jT T d)(F:uD d)(c:b<d.Zbv.length)(a:∀s,d.Zbv[b]?=some s->sU s.Zby=true):Kf d.Zbv b=Kg T (aj T) (bF (aj T) b) :=
 R.lines (R.flo F) c F.vsd a
end
end Go.Proofs.YtpdholcaobgofaaGreat
