import Derived.Test.YtnbhnocdhbcbcaaGreatK26
import Derived.Test.YtnbhnocdhbcbcaaGreatK27
namespace Go.Proofs.YtnbhnocdhbcbcaaGreat
open Go.RowKit Tryz
open Value IntKind Ending
set_option maxHeartbeats 0
variable{v:List kC}{g:Xv}{H:List St}{w b:Nat}{y:Xs}{k:List Tk}{n:List Sm}{i:St}{N:Xt}(L:List Tk)(x:List Sm)(m:Xv)(c:List Xt)(p:Xt)(o:List St)(I:Nat)(u:St)(M:List kC)(t:Pl)(D:Nat)
section
variable {T:List Tk} {S:List Sm} {l:List St} {a A:Nat} {Va:Xt} {ms:List Bool}
theorem mJ(h:D<M.length):bN (M.map (rm T S)) D=rm T S M[D]:=by
 unfold bN;rw[Tn,T0,Tm h];rfl
theorem CR(s:kC):(rm T S s).XY=s.at_.XY/\(rm T S s).XZ=s.at_.XZ/\(rm T S s).X0=s.at_.X0:=by
 unfold rm;split
 ·exact⟨rfl,rfl,rfl⟩
 ·split <;> exact⟨rfl,rfl,rfl⟩
theorem MT(h:D<c.length):(c++[p]).getD D []=c.getD D []:=by
 rw[Tn,Tn,TP h]
theorem MU:(c++[p]).getD c.length []=p:=by
 rw[Tn,TI (Tp _),Uy];rfl
def Ak(lab:Xs)(f:pt):ip:=if(f.1==0)=true then⟨lab,4,0,⟨#[]⟩,0,0⟩ else⟨lab,2,f.1,f.2.XY,f.2.XZ,f.2.X0⟩
theorem NC(s:0<v.length)(a:Xs)(t:Tk){M:List Xt}(i:vI (v.map (rm T S)) v.length g) :
  tp T S A (v.map (rm T S)) a t M=Ak a (Dp (np t) (bb T S A) (g.reverse.map (fun q=>M.getD q []))):=by
 cases g with
 | nil=>have:v.length=0:=i;omega
 | cons k g =>
  obtain⟨p,c,o,j⟩:=i;unfold tp;rw[TR,p,UL,o,Xe,Ug];cases g with
  | nil =>
   have m:c=0:=j;rw[m,To (show ¬((((0:Nat):Int)==0)=false) by simp)];show _=Ak a (Dp (np t) (bb T S A) [M.getD k []]);unfold Dp;simp only;cases e:lr (bb T S A) (M.getD k [])
   ·rw[Tq rfl,To (by
     intro h;have n:=(tQ _ _).1 h;have f:=(yG (bb T S A) (M.getD k [])).2 n.symm;rw[e]at f;cases f)]
    rfl
   ·rw[To (by simp),Tq ((tQ _ _).2 ((yG _ _).1 e).symm)];rfl
  | cons d g =>
   obtain⟨b,-⟩:=j;rw[b,Tq (by rw[TT];omega)];have:∃x y r,((d :: g).reverse.map (fun q=>M.getD q [])++List.map (fun q=>M.getD q []) [k])=x :: y :: r:=by
    have l:2<=((d :: g).reverse.map (fun q=>M.getD q [])++List.map (fun q=>M.getD q []) [k]).length:=(by simp);generalize ((d :: g).reverse.map (fun q=>M.getD q [])++List.map (fun q=>M.getD q []) [k])=L at l
    match L,l with
    | x :: y :: r,_=>exact⟨x,y,r,rfl⟩
   obtain⟨x,y,r,e⟩:=this;rw[e];rfl
theorem PT(Y:Sw T S l a A Va ms)(G:0<v.length)(D:∀i (h:i<v.length),RV l a i v[i])(b:Xs)(t:Tk)(m:Nat):∀i M K,i+m=v.length->M.length=i->(∀x∈M,Su T S A Va x)->vI (v.map (rm T S)) i K->(∀k∈K,k<i) ->
  nY T S A (v.map (rm T S)) b t m i M=Ak b (kz l Va ms (np t) (bb T S A) (v.drop i) (M,K.reverse.map (fun q=>M.getD q []))):=by
 induction m with
 | zero =>
  intro i M K h f p d j;rw[Vd]at h;rw[nY,h,WC,kz];rw[h]at d;exact NC G b t d
 | succ m I =>
  intro i M K h f p d j;have n:i<v.length:=by omega
  obtain⟨g,w⟩:=Ql Y (mJ v i n) (D i n) f p d j;rw[nY,TU n,kz];cases e:((iC T S A (v.map (rm T S)) i M).2==0)
  ·have g:=g e;have u:((kl l Va ms (M,K.reverse.map (fun q=>M.getD q [])) v[i]).1==0)=false:=(by rw[g];exact e);rw[Tq rfl,To (by rw[u];simp),g];unfold Ak;obtain⟨J,L,N⟩:=CR (T:=T) (S:=S) v[i];rw[To (by simp only;rw[e];simp),mJ v i n,J,L,N]
  ·obtain⟨z,B,C⟩:=w e;rw[To (by simp),z,Tq (by rfl)];simp only;generalize (iC T S A (v.map (rm T S)) i M).1=x at *;have o:vI (v.map (rm T S)) (i+1) (i :: K.drop (bN (v.map (rm T S)) i).need):=by
    obtain⟨c,r,s,-⟩:=zJ (bN (v.map (rm T S)) i).need i K d C;exact⟨rfl,c,by rw[qw];exact r,s⟩
   have:=I (i+1) (M++[x]) (i :: K.drop (bN (v.map (rm T S)) i).need) (by omega) (by simp[f]) (fun y H=>by
    rcases Uf.1 H with h | h
    ·exact p y h
    ·rw[TH.1 h];exact B) o (fun k E=>by
    rcases Ua.1 E with h | h
    ·omega
    ·have:=j k (We h);omega)
   rw[this,Xe,Ug];congr 3
   ·congr 1
    ·apply VG;intro q F;exact MT M x q (by rw[f];exact j q (We (List.mem_reverse.1 F)))
    ·show [(M++[x]).getD i []]=[x]
     rw[<-f,MU]
end
def EJ(l:List St)(a:Nat)(L:List kC):Prop:=∀i s,L[i]?=some s->s.XS=1∨RV l a i s
theorem EJ.snoc{s:kC}(h:EJ H w v)(d:s.XS=1∨RV H w v.length s):EJ H w (v++[s]):=fun i x a=>by
 by_cases c:i<v.length
 ·rw[TP c]at a;exact h i x a
 ·have b:=(Tz.1 a).1;rw[Tu,V7]at b;have e:i=v.length:=by omega
  subst e;rw[TI (Tp _),Uy]at a;rw[<-UP a];exact d
theorem EJ.nil:EJ o D []:=fun i s h=>by cases h
theorem xD(h:jG H y w=some b):EO H w b:=by
 unfold jG at h;have a:=Vg h;unfold mQ at a;split at a
 ·next s c =>
  simp only[Bool.and_eq_true,Bool.not_eq_true']at a;exact⟨s,c,a.1.2,a.2⟩
 ·cases a
theorem Is(h:b∈aP H w):EO H w b:=by
 unfold aP eM at h;have a:=(Uj.1 h).2;unfold nK at a;split at a
 ·next s e =>
  rw[TM]at a;refine⟨s,e,?_,a.1⟩;have c:=a.2;unfold qJ at c;split at c
  ·next d =>
   have:s.XS=2:=(by simpa using d);rw[this];rfl
  ·have:s.XS=3:=(by simpa using c);rw[this];rfl
 ·cases a
theorem Ns(c:List (Xs×Pl)):∀a,EJ H w a->EJ H w (dM H w t c a).1:=by
 induction c with
 | nil=>intro a h;rw[dM];split;exact EJ.nil H w;exact h
 | cons x r b =>
  intro a h;obtain⟨e,p⟩:=x;rw[dM];split
  ·exact b _ (h.snoc (TG rfl))
  ·split
   ·exact EJ.nil H w
   ·next n d=>exact b _ (h.snoc (TA (TA ⟨rfl,xD d⟩)))
structure Jc(l:List St)(a:Nat)(c:lB):Prop where
 n:∀x∈c.XW,EO l a x
 t:∀x∈c.XL,x<c.steps.length
 s:EJ l a c.steps
 b:c.behind=true->0<c.steps.length
theorem uZ(h:w<g.length):g.getD w 0∈g:=by
 rw[Tn,Tm h];exact TO h
theorem Jc.let{c:lB}(h:Jc H w c)(n:Nat)(p:Pl):Jc H w (bI c n p).2:=by
 have d:∀x,x<c.steps.length->∀s:kC,x<(c.steps++[s]).length:=fun x a s=>by rw[Tu];omega
 unfold bI;split
 ·unfold fk dO;split
  ·next e=>exact⟨h.n,fun x a=>d x (h.t x a) _,h.s.snoc (TA (TA ⟨rfl,h.n _ (uZ e)⟩)),fun _=>by simp⟩
  ·split
   ·next e=>exact⟨h.n,fun x a=>d x (h.t x a) _,h.s.snoc (TA (TG ⟨rfl,h.t _ (uZ e)⟩)),fun _=>by simp⟩
   ·exact⟨h.n,h.t,h.s,h.b⟩
 ·split
  ·unfold jK;split <;> exact⟨h.n,h.t,h.s,fun h=>by cases h⟩
  ·split
   ·next f =>
    refine⟨h.n,fun x a=>?_,h.s,fun h=>by cases h⟩;rcases Uf.1 a with a | a
    ·exact h.t x a
    ·have:=h.b f.2;have:=TH.1 a;show x<c.steps.length;omega
   ·split
    ·exact⟨h.n,fun x a=>d x (h.t x a) _,h.s.snoc (TG rfl),fun h=>by cases h⟩
    ·exact h
theorem Pg(X:List (Nat×Pl)):∀c,Jc H w c->Jc H w (Bk X c).2:=by
 induction X with
 | nil=>intro c h;exact h
 | cons x r a =>
  intro c h;rw[Bk];split
  ·exact a _ (h.let _ _)
  ·exact h.let _ _
theorem Js(c:List (Xs×Pl)):∀i b,(∀x∈b,EO H w x)->∀x∈(b7 H w t i c b).2,EO H w x:=by
 induction c with
 | nil=>intro i b h;exact h
 | cons y r e =>
  intro i b h;obtain⟨f,p⟩:=y;rw[b7];split
  ·exact h
  ·split
   ·exact h
   ·next n d =>
    split
    ·exact h
    ·refine e _ _ (fun x a=>?_);rcases Uf.1 a with a | a
     ·exact h x a
     ·rw[TH.1 a];exact xD d
theorem um:EJ o I (dB o I u).1:=by
 unfold dB;split
 ·unfold kO mY zK;split
  ·split
   ·split
    ·exact EJ.nil o I
    ·have b:Jc o I ⟨(b7 o I u.XX 1 (u.XJ.drop 1) (aP o I)).2,[],[],0,false⟩:=⟨Js _ _ _ _ (fun x a=>Is a),(fun x a=>by cases a),EJ.nil o I,fun h=>by cases h⟩
     unfold Cr;split
     ·rw[AH];exact(Pg _ _ b).s
     ·exact b.s
   ·exact EJ.nil o I
  ·exact EJ.nil o I
 ·exact Ns _ _ _ (EJ.nil o I)
theorem Fh{p q:Nat->Bool}(h:∀i,i<w->p i=q i):(List.range w).find? p=(List.range w).find? q:=by
 have:∀L:Xv,(∀i∈L,p i=q i)->L.find? p=L.find? q:=by
  intro L
  induction L with
  | nil=>intro _;rfl
  | cons x r b =>
   intro h;rw[WN,WN,h x Ud,b (fun i a=>h i (Uc _ a))]
 exact this _ (fun i a=>h i (TF.1 a))
theorem MX:ie (M.map (rm L x))=match uG M with | some i=>(i:Int) | none=>-1:=by
 unfold ie uG;rw[TR];have e:(List.range M.length).find? (wt (M.map (rm L x)))=(List.range M.length).find? (fun i=>match M[i]? with | some s=>s.XS==1 | none=>false):=by
  apply Fh;intro i a;unfold wt;rw[mJ M i a,Tm a];simp only;unfold rm;split
  ·next h=>rw[h];rfl
  ·next h =>
   have:(M[i].XS==1)=false:=TT.2 h;rw[this];split
   ·simp only;rw[TT];omega
   ·rfl
 rw[e];cases (List.range M.length).find? (fun i=>match M[i]? with | some s=>s.XS==1 | none=>false) <;> rfl
def Oo(r:Rw):ip:=⟨r.XU,r.XE,r.why,r.at_.XY,r.at_.XZ,r.at_.X0⟩
def nc(r:Rw):Rw:=if r.XE=5 then { r with XE:=4 } else r
theorem E7(R:pt×lB):((mY t R).2.1==0)=true->0<(mY t R).1.length:=by
 unfold mY;split
 ·split
  ·split
   ·intro h;cases h
   ·intro _;show 0<R.2.steps.length;omega
  ·intro h;cases h
 ·next a=>intro h;exact absurd h a
theorem FO(b:List (Xs×Pl)):∀a,((dM o I t b a).2.1==0)=true->0<(dM o I t b a).1.length:=by
 induction b with
 | nil =>
  intro a;rw[dM];split
  ·intro h;cases h
  ·intro _;show 0<a.length;omega
 | cons x r c =>
  intro a;obtain⟨d,p⟩:=x;rw[dM];split
  ·exact c _
  ·split
   ·intro h;cases h
   ·exact c _
theorem Kx:((dB o I u).2.1==0)=true->0<(dB o I u).1.length:=by
 unfold dB;split
 ·exact E7 _ _
 ·exact FO _ _ _ _ _
theorem GK(Y:Sw k n H w b (rP H w) (gK H w (rP H w))){t:Tk}(E:i.XU=bR k (aq n b))(B:i.XX=np t)(A:i.Xy=bb k n b)(L:List Rw) :
  lz k n b (rd k n (dB H w i)) t=Oo (nc (dq H w i L)):=by
 have v:=um H w i;have s:=Kx H w i;unfold lz dq;have y:(rd k n (dB H w i)).st=(dB H w i).1.map (rm k n):=rfl;have z:(rd k n (dB H w i)).why=(dB H w i).2.1:=rfl;have l:(rd k n (dB H w i)).XY=(dB H w i).2.2.XY/\(rd k n (dB H w i)).XZ=(dB H w i).2.2.XZ/\(rd k n (dB H w i)).X0=(dB H w i).2.2.X0:=⟨rfl,rfl,rfl⟩;rw[y,z,l.1,l.2.1,l.2.2,MX,<-E];generalize dB H w i=q at *;obtain⟨a,f⟩:=q;simp only at v s ⊢;cases j:(f.1==0)
 ·rw[Tq rfl,To (by simp)];unfold kF;rw[To (by rw[j];simp)];rfl
 ·rw[To (by simp)];have o:f.1=0:=by simpa using j
  cases c:uG a with
  | some u =>
   have e:u<a.length:=by
    unfold uG at c;exact TF.1 (Ur c)
   simp only;rw[Tq (by omega),Uq,mJ a u e,To (by simp)];obtain⟨G,I,J⟩:=CR (T:=k) (S:=n) a[u];unfold kF;rw[Tq j,c];simp only;rw[Tm e,G,I,J,o];rfl
  | none =>
   simp only;rw[To (by omega),Tq (by simp),TR];have r:=s j;have p:∀d (h:d<a.length),RV H w d a[d]:=fun d h=>by
    rcases v d a[d] (Tm h) with m | m
    ·unfold uG at c;rw[UD]at c;have:=c d (TF.2 h);rw[Tm h]at this;simp only at this;rw[m]at this;exact absurd rfl this
    ·exact m
   have:=PT Y r p i.XU t a.length 0 [] [] (by omega) rfl (fun x F=>by cases F) rfl (fun K D=>by cases D);rw[this,Wd];unfold fQ;rw[B,A];show Ak i.XU (kz H (rP H w) (gK H w (rP H w)) (np t) (bb k n b) a ([],[]))=_;generalize kz H (rP H w) (gK H w (rP H w)) (np t) (bb k n b) a ([],[])=g;unfold Ak kF;cases C:(g.1==0)
   ·rw[To (by simp),To (by simp)];rfl
   ·rw[Tq rfl,Tq rfl,c];simp only;split <;> rfl
theorem Jh(c:w<=b)(h:aO x w b=true)(m:Nat):b+m<=x.length->aO x b (b+m)=true->aO x w (b+m)=true:=by
 induction m with
 | zero=>intro _ _;exact h
 | succ m d =>
  intro f a;have e:=AQ x w b c (by omega) h b c (Tp _);rw[<-V5,oN x b (b+m) (by omega) (by omega),TM]at a;rw[<-V5,oN x w (b+m) (by omega) (by omega),d (by omega) a.1];have:=Xd a.2;simp only[Bool.true_and,decide_eq_true_eq];omega
theorem EZ{n:Nat}(c:w<=b)(e:b<=n)(d:n<=x.length)(h:aO x w b=true)(a:aO x b n=true):aO x w n=true:=by
 obtain⟨m,rfl⟩:∃m,n=b+m:=⟨n-b,by omega⟩
 exact Jh x c h m d a
section
variable {T:List Tk} {S:List Sm} {f:Nat}
theorem Oe(P:tD T S w)(d:b<(bB T (aq S w).h).length):(if(((aq S w).k.toList == [36,99])||((aq S w).k.toList == [36,118]))=true then j6 T S (bB T (aq S w).h)[b] w ((aq S w).k.toList == [36,99]) (eF T (aq S w).h ((aq S w).h+b)) else il T S (aq S w).k (bB T (aq S w).h)[b] w (eF T (aq S w).h ((aq S w).h+b)))=0/\(eF T (aq S w).h ((aq S w).h+b)).length=b:=by
 have C:=P.zt;have v:=P.pos;have e:=P.le;have c:=qy T (aq S w).h b d;rw[Tn,Tm d]at c;have c:(bB T (aq S w).h)[b]=tS T ((aq S w).h+b):=c;have i:=uC P;have B:(bB T (aq S w).h).length<=(aq S w).z-1-(aq S w).h:=by
  rw[i,<-nG T (aq S w).h ((aq S w).z-1) e (by omega)];exact(List.takeWhile_sublist _).length_le
 have j:∀y∈bB T (aq S w).h,(y.toList == [36,61])=false:=fun y n=>by
  rw[i]at n;have:=List.all_takeWhile (p:=jy) (l:=eF T (aq S w).h ((aq S w).z-1));rw[Uv]at this;have:=this y n;unfold jy at this;simpa using this
 obtain⟨u,t⟩:=P.w ((aq S w).h+b) (by omega) (by omega);have s:aK (eF T (aq S w).h ((aq S w).h+b)) ⟨#[36,61]⟩=false:=by
  cases r:aK (eF T (aq S w).h ((aq S w).h+b)) ⟨#[36,61]⟩
  ·rfl
  ·obtain⟨q,x,A,o⟩:=wE (by omega) (by omega) r;have a:q-(aq S w).h<(bB T (aq S w).h).length:=(by omega);have f:=qy T (aq S w).h (q-(aq S w).h) a;rw[Tn,Tm a,show(aq S w).h+(q-(aq S w).h)=q by omega,o]at f;have g:=j _ (TO a);rw[show(bB T (aq S w).h)[q-(aq S w).h]=(⟨#[36,61]⟩:Xs) from f]at g;exact absurd g (by decide +kernel)
 have m:=uq u t (by rw[<-c];exact j _ (TO d)) s;rw[<-c]at m;exact⟨m,by rw[nG T _ _ (by omega) (by omega)];omega⟩
theorem yL(P:tD T S w)(c:(aA (aq S w).k||((aq S w).k.toList == [36,101]))=true)(l:y∈bB T (aq S w).h):eK T S y w=true∨∃m,m<w/\rT T S y w m=true:=by
 obtain⟨i,j,e⟩:=Ux l;obtain⟨a,-⟩:=Oe P j;rw[e]at a;have b:(((aq S w).k.toList == [36,99])||((aq S w).k.toList == [36,118]))=false/\((aq S w).k.toList == [36,100])=false/\((aq S w).k.toList == [36,102])=false:=by
  unfold aA at c;simp only[Bool.or_eq_true]at c;rcases c with (h | h) | h <;> (rw[cw h,cw h,cw h,cw h];decide)
 rw[b.1,To (by simp)]at a;unfold il at a;rw[b.2.1,b.2.2,To (by simp)]at a;cases g:eK T S y w
 ·right
  rw[g]at a;split at a
  ·simp at a
  ·rw[To (by simp),To (by simp)]at a;split at a
   ·cases a
   ·split at a
    ·cases a
    ·next d =>
     unfold gJ at d;split at d
     ·next m f=>exact⟨m,TF.1 (Ur f),Vg f⟩
     ·omega
 ·exact TG rfl
theorem R9(P:tD T S w)(a:((aq S w).k.toList == [36,102])=true):(bB T (aq S w).h).length<=2:=by
 by_cases h:2<(bB T (aq S w).h).length
 ·obtain⟨b,c⟩:=Oe P h;rw[cw a,cw a,To (by decide)]at b;unfold il at b;rw[c,a,cw a,To (by decide),To (by decide),Tq rfl,Tq (by decide)]at b;cases b
 ·omega
theorem Iz(h:mO T S y w=true):(aA (aq S w).k||aH (aq S w).k)=true/\bR T (aq S w)=y:=by
 unfold mO at h;rw[TM]at h;refine⟨?_,uQ (by simpa using h.2)⟩;cases e:(aA (aq S w).k||aH (aq S w).k)
 ·have:bR T (aq S w)=⟨#[]⟩:=by unfold bR;rw[To (by rw[e];simp)]
  rw[this,Un]at h;simp at h
 ·rfl
theorem Ni(p:Cv T T.length S f)(k:∀q,q<T.length->aY T S q=0)(x:b<S.length)(r:w<b)(C:mO T S y w=true)(D:mO T S y b=true):False:=by
 obtain⟨P,F⟩:=p.s b x;obtain⟨d,n⟩:=Iz D;have t:=P.lt;have g:=Cn p b x (aq S b).a (Tp _) t;rw[Tq rfl,k _ (by omega)]at g;have u:tS T (aq S b).a=y:=by
  unfold bR at n;rw[Tq d]at n;exact n
 rw[u]at g;have v:=P.k;unfold ee at v;by_cases o:(ii (tS T (aq S b).a) ⟨#[36]⟩||decide (T.length<=(aq S b).a+1))=true
 ·rw[Tq o]at v;have z:(aq S b).k=y:=by rw[<-u];exact congrArg Prod.fst v
  rw[z]at d;unfold dD at g;have j:((y.toList == [36,123])||((y.toList == [36,118])||(y.toList == [36,100])))=false/\(y.toList == [36,125])=false/\(y.toList == [36,99])=false:=by
   unfold aA aH at d;simp only[Bool.or_eq_true]at d;rcases d with (h | h) | (h | h) <;> (rw[cw h,cw h,cw h,cw h,cw h];decide)
  rw[j.1,j.2.1,j.2.2,d,To (by simp),To (by simp),To (by simp),To (by simp),To (by simp),Tq rfl]at g;cases g
 ·have i:ii y ⟨#[36]⟩=false:=by
   rw[<-u];cases e:ii (tS T (aq S b).a) ⟨#[36]⟩
   ·rfl
   ·rw[e]at o;exact absurd rfl o
  have c:∀l:List UInt8,l=[36,123]∨l=[36,118]∨l=[36,100]∨l=[36,125]∨l=[36,99]∨l=[36,97]∨l=[36,112]∨l=[36,102]∨l=[36,101]->(y.toList==l)=false:=fun l n=>by
   cases e:(y.toList==l)
   ·rfl
   ·have B:(⟨⟨l⟩⟩:Xs).toList=l:=(by rw[Un]);have A:y=⟨⟨l⟩⟩:=uQ (by rw[B];simpa using e);rw[A]at i;rcases n with rfl | rfl | rfl | rfl | rfl | rfl | rfl | rfl | rfl <;> exact absurd i (by decide +kernel)
  unfold dD aA aH at g;rw[c [36,123] (by simp),c [36,118] (by simp),c [36,100] (by simp),c [36,125] (by simp),c [36,99] (by simp),c [36,97] (by simp),c [36,112] (by simp),c [36,102] (by simp),c [36,101] (by simp),i]at g;simp only[Bool.or_self,Bool.false_and,Bool.false_eq_true,if_false]at g;split at g
  ·cases g
  ·split at g
   ·cases g
   ·next E =>
    apply E;unfold jL;have:0<=bC T S y b:=by
     unfold bC;cases e:(List.range b).find? (mO T S y) with
     | none =>
      rw[UD]at e;exact absurd C (e w (TF.2 r))
     | some m=>show(0:Int)<=(m:Int);omega
    rw[UQ this];rfl
end
theorem F3(c:Xs):c∈bL L x m D ↔ ∃i,i<D/\si x m i=true/\c=(bb L x (m.getD i 0)).getD 1 ⟨#[]⟩:=by
 unfold bL sZ;rw[UF];constructor
 ·rintro ⟨i,d,rfl⟩;obtain⟨a,b⟩:=Uj.1 d;exact⟨i,TF.1 a,b,rfl⟩
 ·rintro ⟨i,a,b,rfl⟩;exact⟨i,Uj.2 ⟨TF.2 a,b⟩,rfl⟩
theorem NN(h:∀j∈m,((aq x j).k.toList == [36,102])=true->(bb L x j).getD 1 ⟨#[]⟩=tS L ((aq x j).h+1)):∀k,k<=m.length->fT L x m k=bL L x m k:=by
 intro k
 induction k with
 | zero=>intro _;rfl
 | succ k b =>
  intro c;have a:k<m.length:=by omega
  rw[qO,<-b (by omega)];unfold fT si;rw[Uo a,UH,Ug,Tn,Tm a];congr 1;show _=if((aq x m[k]).k.toList == [36,102])=true then [(bb L x m[k]).getD 1 ⟨#[]⟩] else [];split
  ·next e=>rw[Xk,Tq e,WL,h _ (TO a) e];rfl
  ·next e=>rw[Xk,To e,WL];rfl
theorem NA(h:N.Pairwise (fun x y=>x≠y)):Je N:=by
 intro i j a b;rw[VN]at h;have:=h i j (by omega) b a;rw[Tn,Tn,Tm (show i<N.length by omega),Tm b,TT];exact fun e=>this (uQ e)
theorem JW(d:w<(a9 L x D).length)(f:b<(a9 L x D).length)(h:(a9 L x D)[b]<(a9 L x D)[w]):b<w:=by
 have a:(a9 L x D).Pairwise (· < ·):=WJ _ VZ;rw[VN]at a;by_cases e:b<w
 ·exact e
 ·by_cases c:b=w
  ·subst c;omega
  ·have:=a w b d f (by omega);omega
theorem Mj:y∈rP H w ↔ ∃n s,H[n]?=some s/\(s.XS==2)=true/\fD H n w=true/\y=aN s:=by
 unfold rP qq;rw[VL];constructor
 ·rintro ⟨n,d,e⟩;unfold vL at e;split at e
  ·next s a =>
   split at e
   ·next h=>exact⟨n,s,a,h.1,h.2,(UP e).symm⟩
   ·cases e
  ·cases e
 ·rintro ⟨n,s,a,b,c,rfl⟩;refine⟨n,TF.2 (Tz.1 a).1,?_⟩;unfold vL;rw[a];simp only;rw[Tq ⟨b,c⟩]
section
variable {T:List Tk} {d:Db}
theorem gy.inj(R:gy T d)(a:w<d.XP.length)(c:b<d.XP.length)(h:aw (aa T) w=aw (aa T) b):w=b:=by
 have f:=R.hel.len;rcases Ww w b with e | e | e
 ·have:=f9 (S:=aa T) e (by omega);omega
 ·exact e
 ·have:=f9 (S:=aa T) e (by omega);omega
theorem gy.ltOf(R:gy T d)(c:w<d.XP.length)(h:aw (aa T) w<aw (aa T) b):w<b:=by
 have a:=R.hel.len;rcases Ww w b with e | e | e
 ·exact e
 ·rw[e]at h;omega
 ·have:=f9 (S:=aa T) e (by omega);omega
theorem gy.rcOf(R:gy T d){j:Nat}(b:j<(aa T).length)(h:kE (aa T) j=true):∃n,n<d.XP.length/\aw (aa T) n=j:=by
 have a:j∈lE (aa T):=Uj.2 ⟨TF.2 b,h⟩;rw[un]at a;obtain⟨n,c,e⟩:=UF.1 a;exact⟨n,by rw[R.hel.len];exact TF.1 c,e⟩
theorem gy.sget(R:gy T d)(e:d.XP[w]?=some i):fm (aq (aa T) (aw (aa T) w)).k.toList i.XS/\i.XU=bR T (aq (aa T) (aw (aa T) w))/\i.Xy=bb T (aa T) (aw (aa T) w):=by
 obtain⟨a,b,c,-⟩:=R.ct w i e;exact⟨a,b,c⟩
theorem gy.use(R:gy T d)(t:∀q,q<T.length->aY T (aa T) q=0)(G:∀(n:Nat) (s:St),d.XP[n]?=some s->oA s.XS=true->s.til=0)(A:w<d.XP.length)(x:Xs)(I:(x.toList == [])=false):R4 T (aa T) d.XP w (aw (aa T) w) x:=by
 have K:=R.hel.at_ A;have p:=dN T;have i:∀{n:Nat} {s:St},d.XP[n]?=some s->n<d.XP.length->(s.XS==1)=false->s.XU=x->mO T (aa T) x (aw (aa T) n)=true:=fun {n s} c l H C=>by
  obtain⟨r,y,-⟩:=R.sget c;unfold mO;rw[<-y,C,I];simp
 unfold R4;cases u:jG d.XP x w with
 | some n =>
  right
  obtain⟨s,c,H,o⟩:=xD u;have l:=(Tz.1 c).1;have v:s.XU=x:=by
   have:=Vg u;unfold mQ at this;rw[c]at this;simp only[Bool.and_eq_true]at this;exact uQ (by simpa using this.1.1)
  have z:=i c l H v;obtain⟨r,y,-⟩:=R.sget c;have m:n<w:=by
   unfold fD at o;rw[c]at o;simp only[Bool.and_eq_true,decide_eq_true_eq]at o;exact o.1
  have E:=f9 (S:=aa T) m (by rw[<-R.hel.len];exact A);have D:bC T (aa T) x (aw (aa T) w)=(aw (aa T) n:Nat):=by
   apply ub E z;intro j B;cases e:mO T (aa T) x j
   ·rfl
   ·exact(Ni p t (by omega) B e z).elim
  refine⟨n,rfl,l,?_⟩;unfold dX;rw[D,To (by omega),Uq,Tq];cases b:oA s.XS
  ·rw[R.held c b A,TM]at o;rw[o.2,Wv]
  ·have:aA (aq (aa T) (aw (aa T) n)).k=true:=by
    unfold aA;rw[<-(cm r).2.2.2];exact b
   rw[this,Vn]
 | none =>
  left
  refine⟨rfl,?_⟩;unfold dX;split
  ·omega
  ·next g =>
   rw[To]
   ·omega
   ·intro f;unfold bC at g f;cases e:(List.range (aw (aa T) w)).find? (mO T (aa T) x) with
    | none=>rw[e]at g;exact g (by simp)
    | some j =>
     rw[e]at f;simp only[Int.toNat_natCast]at f;have B:=TF.1 (Ur e);have z:=Vg e;obtain⟨a,C⟩:=Iz z
     obtain⟨n,l,F⟩:=R.rcOf (j:=j) (by omega) (by
      unfold kE;unfold aA aH at a;simp only[Bool.or_eq_true]at a ⊢;rcases a with (h | h) | (h | h)
      ·exact TG (TA h)
      ·exact TA h
      ·exact TG (TG (TG (TA h)))
      ·exact TG (TG (TA h)))
     subst F;obtain⟨s,c,r,y,J⟩:=R.get l;have m:=R.ltOf l B;unfold jG at u;rw[UD]at u;apply u n (TF.2 l);unfold mQ;rw[c];simp only[Bool.and_eq_true];refine⟨⟨by rw[y,C];simp,?_⟩,?_⟩
     ·rw[(cm r).2.2.1];unfold aA aH at a;simp only[Bool.or_eq_true]at a;rcases a with (h | h) | (h | h) <;> (rw[cw h];decide)
     ·cases b:oA s.XS
      ·rw[R.held c b A,UQ B];have:aA (aq (aa T) (aw (aa T) n)).k=false:=by
        unfold aA;rw[<-(cm r).2.2.2];exact b
       rw[this,UM]at f;rw[f];rfl
      ·unfold fD;rw[c];simp only;rw[G n s c b,UQ m];rfl
theorem gy.apAll(R:gy T d)(f:w<d.XP.length)(h:Je N)(i j:Nat)(a:i<N.length)(b:j<N.length):fG N.length (gK d.XP w N) i j=ew T (aa T) (N.getD i ⟨#[]⟩) (N.getD j ⟨#[]⟩) (aw (aa T) w):=by
 have c:∀x y,ew T (aa T) x y (aw (aa T) w)=ew T (aa T) y x (aw (aa T) w):=fun x y=>by
  unfold ew;congr 1
  funext j
  unfold QB;have e:(x.toList==y.toList)=(y.toList==x.toList):=by rw[UK,U9,U9];exact⟨Eq.symm,Eq.symm⟩
  rw[e];cases aK (bB T (aq (aa T) j).h) x <;> cases aK (bB T (aq (aa T) j).h) y <;> rfl
 rw[Jj _ _ _ _ _ a b];rcases Ww i j with e | e | e
 ·rw[R.tog f h a b e,TT.2 (by omega)];rfl
 ·subst e;rw[WE];unfold ew
  symm
  rw[Wl,Vr];apply uP;intro j _;unfold QB;rw[WE];simp
 ·rw[c,<-R.tog f h b a e,TT.2 (by omega)];have:yR d.XP w N d.XP.length i j=yR d.XP w N d.XP.length j i:=by
   unfold yR;congr 1
   funext n
   rw[Wt,Wt,Xh ((bM N (Go.Proofs.YtnbhnocdhbcbcaaGreat.symsAt d.XP n)).contains i)]
  rw[this];rfl
theorem gy.fvar(R:gy T d)(j:RU T (aa T))(f:d.XP[w]?=some i)(c:(i.XS==2)=true):aN i=tS T ((aq (aa T) (aw (aa T) w)).h+1)/\((aq (aa T) (aw (aa T) w)).k.toList == [36,102])=true/\(bb T (aa T) (aw (aa T) w)).getD 1 ⟨#[]⟩=tS T ((aq (aa T) (aw (aa T) w)).h+1):=by
 have m:=(Tz.1 f).1;obtain⟨l,-,b⟩:=R.sget f;have e:((aq (aa T) (aw (aa T) w)).k.toList == [36,102])=true:=by rw[<-(cm l).2.1];exact c
 obtain⟨g,a⟩:=j _ (R.hel.at_ m) e;refine⟨?_,e,a⟩;unfold aN;rw[Tq ⟨c,by rw[b];exact g⟩,b];exact a
theorem gy.avOf(R:gy T d)(l:RU T (aa T))(j:w<d.XP.length)(m:b<aw (aa T) w)(c:((aq (aa T) b).k.toList == [36,102])=true)(a:aO (aa T) b (aw (aa T) w)=true):tS T ((aq (aa T) b).h+1)∈rP d.XP w:=by
 have p:=R.hel.at_ j;obtain⟨n,o,rfl⟩:=R.rcOf (j:=b) (by omega) (by unfold kE;rw[c];simp);obtain⟨s,f,i,-,-⟩:=R.get o;have g:(s.XS==2)=true:=by rw[(cm i).2.1];exact c
 have e:oA s.XS=false:=by rw[(cm i).2.2.2,cw c,cw c];decide
 rw[Mj];exact⟨n,s,f,g,by rw[R.held f e j,UQ m,a];rfl,(R.fvar l f g).1.symm⟩
end
theorem rV.avd{d:Db}(F:rV d):Je (rP d.XP w):=by
 apply NA;unfold rP qq;rw[List.pairwise_filterMap];refine List.pairwise_lt_range.imp_of_mem (fun {n m} hn hm hnm=>?_);intro x a y b;unfold vL at a b;split at a
 ·next s g =>
  split at a
  ·next l =>
   split at b
   ·next u i =>
    split at b
    ·next o =>
     have j:s.XS=2:=(by simpa using l.1);have k:u.XS=2:=(by simpa using o.1);have r:s.til=0∨m<s.til:=by
      have c:=l.2;have f:=o.2;unfold fD at c f;rw[g]at c;rw[i]at f;simp only[Bool.and_eq_true,Bool.or_eq_true,decide_eq_true_eq,beq_iff_eq]at c f;rcases c.2 with h | h
      ·exact TG h
      ·exact TA (by omega)
     have:=F.ds n m s u g i j k hnm r;have p:aN s=vr s:=(by unfold aN vr;rw[Tq ⟨by rw[j];rfl,F.fl n s g j⟩]);have q:aN u=vr u:=(by unfold aN vr;rw[Tq ⟨by rw[k];rfl,F.fl m u i k⟩]);have a:aN s=x:=UP a;have b:aN u=y:=UP b;rw[<-a,<-b,p,q];intro e;rw[e]at this;simp at this
    ·cases b
   ·cases b
  ·cases a
 ·cases a
theorem Ox(d:w<=b)(f:b<=n.length)(h:iE k n y w=true)(c:aO n w b=true):iE k n y b=true:=by
 unfold iE jF at h ⊢;obtain⟨m,a,e⟩:=Us.1 h;have a:=TF.1 a;unfold oP at e;simp only[Bool.and_eq_true,Bool.or_eq_true,Bool.not_true,Bool.false_eq_true,or_false]at e;refine na m (by omega) ?_;unfold oP;rw[e.1,e.2.1,EZ n (by omega) d f e.2.2 c];rfl
theorem M0(d:b<w)(c:((aq n b).k.toList == [36,102])=true)(a:aO n b w=true)(e:tS k ((aq n b).h+1)∈uH k n w):b∈a9 k n w:=by
 refine Uj.2 ⟨TF.2 d,?_⟩;unfold tZ;rw[a,c,(Iq _ _).2 e];simp
theorem M1(h:b∈a9 k n w):∃a,∃(c:a<(a9 k n w).length),(a9 k n w)[a]=b/\(a9 k n w).getD a 0=b:=by
 obtain⟨a,c,e⟩:=Ux h;exact⟨a,c,e,by rw[Tn,Tm c];exact e⟩
theorem Fk(h:rT k n y w b=true):((aq n b).k.toList == [36,102])=true/\tS k ((aq n b).h+1)=y/\aO n b w=true:=by
 unfold rT at h;simp only[Bool.and_eq_true]at h;exact⟨h.1,(xe _ _).1 h.2.1,h.2.2⟩
theorem qC(h:b∈aP H w):∃s,H[b]?=some s/\((s.XS==2)=true∨(s.XS==3)=true)/\fD H b w=true:=by
 unfold aP eM at h;have a:=(Uj.1 h).2;unfold nK at a;split at a
 ·next s e =>
  rw[TM]at a;refine⟨s,e,?_,a.1⟩;have c:=a.2;unfold qJ at c;split at c
  ·next d=>exact TG d
  ·exact TA c
 ·cases a
section
variable {T:List Tk} {d:Db}
theorem gy.rcIs(R:gy T d)(a:w<d.XP.length):kE (aa T) (aw (aa T) w)=true:=by
 have h:aw (aa T) w∈lE (aa T):=by
  unfold aw;rw[Tn,Tm (by rw[<-R.hel.len];exact a)];exact TO _
 exact(Uj.1 h).2
theorem gy.hyE(R:gy T d)(F:rV d)(f:∀q,q<T.length->aY T (aa T) q=0)(K:w<d.XP.length):SB T (aa T) d.XP (aP d.XP w):=by
 have E:=R.flo F;have p:=dN T;have G:=R.hyps E K;have hN:=R.hel.at_ K;have b:∀i,i<(aP d.XP w).length->((aP d.XP w).map (aw (aa T))).getD i 0=aw (aa T) ((aP d.XP w).getD i 0):=fun i a=>by
  rw[Tn,T0,Tn,Tm a];rfl
 have g:∀i,i<(aP d.XP w).length->(aP d.XP w).getD i 0∈aP d.XP w:=fun i a=>uZ a;have D:∀{m:Nat} {s:St},d.XP[m]?=some s->d.XP.getD m zs=s:=fun {m s} h=>by rw[Tn,h];rfl
 refine⟨fun i a=>?_,fun i a=>?_,fun i a n=>?_,fun i a n x N S=>?_⟩
 ·obtain⟨s,c,j,-⟩:=qC (g i a);obtain⟨o,-,-⟩:=R.sget c;unfold si;rw[b i a,D c,<-(cm o).2.1];rcases j with h | h
  ·rw[h];have:s.XS=2:=by simpa using h
   rw[this];rfl
  ·rw[h];have:s.XS=3:=by simpa using h
   rw[this];rfl
 ·obtain⟨s,c,j,-⟩:=qC (g i a);obtain⟨-,-,X⟩:=R.sget c;rw[b i a,D c,X]
 ·obtain⟨s,c,j,-⟩:=qC (g i a);obtain⟨o,-,-⟩:=R.sget c;unfold si at n;rw[b i a]at n ⊢;rw[<-(cm o).2.1]at n;obtain⟨r,-,B⟩:=R.fvar E c n;rw[D c,r,B]
 ·obtain⟨s,c,j,A⟩:=qC (g i a);obtain⟨o,-,-⟩:=R.sget c;have Z:=(Tz.1 c).1;unfold si at n;rw[b i a]at n N;have t:((aq (aa T) (aw (aa T) ((aP d.XP w).getD i 0))).k.toList == [36,101])=true:=by
   rw[<-(cm o).1];rcases j with h | h
   ·rw[(cm o).2.1,n]at h;cases h
   ·exact h
  have C:oA s.XS=false:=by rw[(cm o).2.2.2,cw t,cw t];decide
  rw[R.held c C K,TM,UG]at A;have W:=R.hel.at_ Z;have P:=lx p f _ W (fN t (by decide));rw[F3]at S;rcases yL P (by rw[t];simp) N with H | ⟨m,J,Y⟩
  ·exfalso
   obtain⟨k,j,l,rfl⟩:=S;unfold si at l;rw[b k j]at l H;obtain⟨u,L,-,-⟩:=qC (g k j);have M:=R.hel.at_ (Tz.1 L).1;obtain⟨v1,v2⟩:=MI (lx p f _ M (fN l (by decide))) l;have e:(bb T (aa T) (aw (aa T) ((aP d.XP w).getD k 0))).getD 1 ⟨#[]⟩=tS T ((aq (aa T) (aw (aa T) ((aP d.XP w).getD k 0))).h+1):=v2;rw[e]at H;exact mC p f (by omega) (by omega) H v1
  ·obtain⟨r,Q,B⟩:=Fk Y;have v:=EZ (aa T) (by omega) (by omega) (by omega) B A.2;have L:tS T ((aq (aa T) m).h+1)∈uH T (aa T) (aw (aa T) w):=by
    rw[Q];unfold uH kK;refine Uf.2 (TA (VJ.2 ⟨_,Uj.2 ⟨TF.2 A.1,?_⟩,N⟩));unfold yU;rw[t,A.2];rfl
   have z:=M0 (by omega) r v L;obtain⟨k,j,U,O⟩:=M1 z;have y:i<(a9 T (aa T) (aw (aa T) w)).length:=(by rw[<-G,TR];exact a);have V:(a9 T (aa T) (aw (aa T) w))[i]=aw (aa T) ((aP d.XP w).getD i 0):=by
    have:=b i a;rw[G,Tn,Tm y]at this;exact this
   have I:=JW T (aa T) (aw (aa T) w) y j (by rw[U,V];exact J);rw[G,F3];refine⟨k,I,by unfold si;rw[O];exact r,?_⟩;rw[O,<-Q];exact(E m (by omega) r).2.symm
theorem gy.py(R:gy T d)(F:rV d)(c:∀q,q<T.length->aY T (aa T) q=0)(D:w<d.XP.length):Sw T (aa T) d.XP w (aw (aa T) w) (rP d.XP w) (gK d.XP w (rP d.XP w)):=by
 have C:=R.flo F;have p:=dN T;have hA:=R.hel.at_ D;have hD:∀{m:Nat} {s:St},d.XP[m]?=some s->d.XP.getD m zs=s:=fun {m s} h=>by rw[Tn,h];rfl
 have f:∀{m:Nat} {s:St},d.XP[m]?=some s->nI d.XP m=oA s.XS/\oA s.XS=aA (aq (aa T) (aw (aa T) m)).k:=fun {m s} h=>by
  obtain⟨V,-,-⟩:=R.sget h;refine⟨by unfold nI;rw[h],?_⟩;rw[(cm V).2.2.2];rfl
 have K:∀n,n<d.XP.length->Je (zm T (aa T) (aw (aa T) n))/\fT T (aa T) (a9 T (aa T) (aw (aa T) n)) (a9 T (aa T) (aw (aa T) n)).length=zm T (aa T) (aw (aa T) n):=fun n a=>by
  have hN:=R.hel.at_ a;have e:fT T (aa T) (a9 T (aa T) (aw (aa T) n)) (a9 T (aa T) (aw (aa T) n)).length=zm T (aa T) (aw (aa T) n):=NN T (aa T) _ (fun j Y t=>(C j (by have:=qE T (aa T) _ j Y;omega) t).2) _ (Tp _);refine⟨?_,e⟩;rw[<-e,<-R.vars C a];exact F.vsd
 have l:∀{n:Nat},EO d.XP w n->∃s,d.XP[n]?=some s/\n<d.XP.length/\aw (aa T) n<aw (aa T) w/\(aA (aq (aa T) (aw (aa T) n)).k||aH (aq (aa T) (aw (aa T) n)).k)=true/\(oA s.XS=false->aO (aa T) (aw (aa T) n) (aw (aa T) w)=true):=fun {n} h=>by
  obtain⟨s,g,t,z⟩:=h;have a:=(Tz.1 g).1;have Z:n<w:=by
   unfold fD at z;rw[g]at z;simp only[Bool.and_eq_true,decide_eq_true_eq]at z;exact z.1
  refine⟨s,g,a,f9 Z (by rw[<-R.hel.len];exact D),?_,fun B=>?_⟩
  ·have M:=R.rcIs a;obtain⟨V,-,-⟩:=R.sget g;rw[(cm V).2.2.1]at t;unfold kE at M;rw[t]at M;unfold aA aH;simp only[Bool.or_eq_true,Bool.false_or]at M ⊢;rcases M with ((h | h) | h) | h
   ·exact TA (TG h)
   ·exact TA (TA h)
   ·exact TG (TG h)
   ·exact TG (TA h)
  ·rw[R.held g B D,TM]at z;exact z.2
 have u:∀{k:Xs},(aA k||aH k)=true->cd k=false:=fun {k} t=>by
  unfold aA aH at t;simp only[Bool.or_eq_true]at t;rcases t with (h | h) | (h | h) <;> exact fN h (by decide)
 refine⟨R.apAll D F.avd,fun x hx=>?_,fun n a=>?_,fun n a=>?_,fun n a _=>⟨R.hyE F c a,R.hyps C a⟩,fun n a _=>K n a,fun n a _ i j O Y=>R.apAll a (K n a).1 i j O Y,fun n a=>?_,fun n a o y E hv=>?_,fun n a o=>⟨fun y E=>?_,?_⟩⟩
 ·obtain⟨n,s,g,t,z,rfl⟩:=Mj.1 hx;have a:=(Tz.1 g).1;obtain⟨f1,f2,-⟩:=R.fvar C g t;have B:oA s.XS=false:=by rw[show s.XS=2 by simpa using t];rfl
  rw[R.held g B D,TM,UG]at z;rw[f1];exact Ox (by omega) (by omega) (MI (lx p c _ (R.hel.at_ a) (fN f2 (by decide))) f2).1 z.2
 ·obtain⟨s,g,-⟩:=R.get a;rw[(f g).1,(f g).2]
 ·obtain⟨s,g,-⟩:=R.get a;rw[hD g,(R.sget g).2.2]
 ·obtain⟨s,g,a,A,b,-⟩:=l a;have:=(QD p c (aa T).length (Tp _) _ (R.hel.at_ a) b).1;intro e;rw[e]at this;simp at this
 ·obtain⟨s,g,a,A,b,r⟩:=l a;rw[(f g).1]at o;have r:=r o;have v:=(f g).2;rw[o]at v;rw[<-v,UM]at b;have U:=R.hel.at_ a;have P:=lx p c _ U (u (by rw[<-v,b];rfl));unfold aH at b;cases N:((aq (aa T) (aw (aa T) n)).k.toList == [36,102])
  ·rw[N,UM]at b;rcases yL P (by rw[b];simp) E with G | ⟨m,Q,W⟩
   ·exact(mC p c (by omega) (by omega) G hv).elim
   ·obtain⟨I,L,S⟩:=Fk W;rw[<-L];exact R.avOf C D (by omega) I (EZ (aa T) (by omega) (by omega) (by omega) S r)
  ·have hl:=R9 P N;have E:y∈bB T (aq (aa T) (aw (aa T) n)).h:=E;obtain⟨i,O,e⟩:=Ux E;have H:=qy T (aq (aa T) (aw (aa T) n)).h i O;rw[Tn,Tm O]at H;have H:y=tS T ((aq (aa T) (aw (aa T) n)).h+i):=(by rw[<-e];exact H);have X:i=0∨i=1:=(by omega);rcases X with rfl | rfl
   ·have G:=Es P (by rw[<-v];unfold aH;rw[N];rfl);rw[Vd]at H;rw[<-H]at G;exact(mC p c (by omega) (by omega) G hv).elim
   ·rw[H];exact R.avOf C D A N r
 ·obtain⟨s,g,a,A,b,-⟩:=l a;rw[(f g).1,(f g).2]at o;have U:=R.hel.at_ a;have P:=lx p c _ U (u b);rcases yL P (by rw[o];rfl) E with G | ⟨m,Q,W⟩
  ·right
   cases e:iE T (aa T) y (aw (aa T) w)
   ·rfl
   ·exact(mC p c (by omega) (by omega) G e).elim
  ·left
   obtain⟨I,L,S⟩:=Fk W;have J:=M0 Q I S (by rw[L];unfold uH kK;exact Uf.2 (TG E));obtain⟨k,t,e1,e2⟩:=M1 J;rw[F3];refine⟨k,t,by unfold si;rw[e2];exact I,?_⟩;rw[e2,<-L];exact(C m (by omega) I).2.symm
 ·obtain⟨s,g,a,A,b,-⟩:=l a;rw[(f g).1,(f g).2]at o;intro Q;have:=So p c (aa T).length (Tp _) _ (R.hel.at_ a) o;rw[(Iq _ _).2 Q]at this;cases this
end
end Go.Proofs.YtnbhnocdhbcbcaaGreat
