import Derived.Test.YtnbhnocdhbcbcaaGreatK26
import Derived.Test.YtnbhnocdhbcbcaaGreatK27
namespace Go.Proofs.YtnbhnocdhbcbcaaGreat
open Go.RowKit Tryz
open Value IntKind Ending
set_option maxHeartbeats 0
variable{v:List kD}{g:Xv}{H:List St}{w b:Nat}{y:Xs}{k:List Tk}{n:List Sm}{i:St}{N:Xt}(L:List Tk)(x:List Sm)(m:Xv)(c:List Xt)(p:Xt)(o:List St)(I:Nat)(u:St)(M:List kD)(t:Pl)(D:Nat)
section
variable {T:List Tk} {S:List Sm} {l:List St} {a A:Nat} {Va:Xt} {ms:List Bool}
theorem mK(h:D<M.length):bN (M.map (rr T S)) D=rr T S M[D]:=by
 unfold bN;rw[To,Ua,Tn h];rfl
theorem CS(s:kD):(rr T S s).XZ=s.at_.XZ/\(rr T S s).X0=s.at_.X0/\(rr T S s).X3=s.at_.X3:=by
 unfold rr;split
 ·exact⟨rfl,rfl,rfl⟩
 ·split <;> exact⟨rfl,rfl,rfl⟩
theorem MU(h:D<c.length):(c++[p]).getD D []=c.getD D []:=by
 rw[To,To,TQ h]
theorem MV:(c++[p]).getD c.length []=p:=by
 rw[To,TJ (Tq _),Uz];rfl
def Al(lab:Xs)(f:pu):iq:=if(f.1==0)=true then⟨lab,4,0,⟨#[]⟩,0,0⟩ else⟨lab,2,f.1,f.2.XZ,f.2.X0,f.2.X3⟩
theorem ND(s:0<v.length)(a:Xs)(t:Tk){M:List Xt}(i:vJ (v.map (rr T S)) v.length g) :
  tq T S A (v.map (rr T S)) a t M=Al a (Dq (nr t) (bb T S A) (g.reverse.map (fun q=>M.getD q []))):=by
 cases g with
 | nil=>have:v.length=0:=i;omega
 | cons k g =>
  obtain⟨p,c,o,j⟩:=i;unfold tq;rw[TT,p,UM,o,Xf,Uh];cases g with
  | nil =>
   have m:c=0:=j;rw[m,Tp (show ¬((((0:Nat):Int)==0)=false) by simp)];show _=Al a (Dq (nr t) (bb T S A) [M.getD k []]);unfold Dq;simp only;cases e:lu (bb T S A) (M.getD k [])
   ·rw[Tr rfl,Tp (by
     intro h;have n:=(tR _ _).1 h;have f:=(yH (bb T S A) (M.getD k [])).2 n.symm;rw[e]at f;cases f)]
    rfl
   ·rw[Tp (by simp),Tr ((tR _ _).2 ((yH _ _).1 e).symm)];rfl
  | cons d g =>
   obtain⟨b,-⟩:=j;rw[b,Tr (by rw[TU];omega)];have:∃x y r,((d :: g).reverse.map (fun q=>M.getD q [])++List.map (fun q=>M.getD q []) [k])=x :: y :: r:=by
    have l:2<=((d :: g).reverse.map (fun q=>M.getD q [])++List.map (fun q=>M.getD q []) [k]).length:=(by simp);generalize ((d :: g).reverse.map (fun q=>M.getD q [])++List.map (fun q=>M.getD q []) [k])=L at l
    match L,l with
    | x :: y :: r,_=>exact⟨x,y,r,rfl⟩
   obtain⟨x,y,r,e⟩:=this;rw[e];rfl
theorem PU(Y:Sx T S l a A Va ms)(G:0<v.length)(D:∀i (h:i<v.length),RY l a i v[i])(b:Xs)(t:Tk)(m:Nat):∀i M K,i+m=v.length->M.length=i->(∀x∈M,Sv T S A Va x)->vJ (v.map (rr T S)) i K->(∀k∈K,k<i) ->
  nZ T S A (v.map (rr T S)) b t m i M=Al b (kB l Va ms (nr t) (bb T S A) (v.drop i) (M,K.reverse.map (fun q=>M.getD q []))):=by
 induction m with
 | zero =>
  intro i M K h f p d j;rw[Ve]at h;rw[nZ,h,WD,kB];rw[h]at d;exact ND G b t d
 | succ m I =>
  intro i M K h f p d j;have n:i<v.length:=by omega
  obtain⟨g,w⟩:=Qm Y (mK v i n) (D i n) f p d j;rw[nZ,TV n,kB];cases e:((iD T S A (v.map (rr T S)) i M).2==0)
  ·have g:=g e;have u:((km l Va ms (M,K.reverse.map (fun q=>M.getD q [])) v[i]).1==0)=false:=(by rw[g];exact e);rw[Tr rfl,Tp (by rw[u];simp),g];unfold Al;obtain⟨J,L,N⟩:=CS (T:=T) (S:=S) v[i];rw[Tp (by simp only;rw[e];simp),mK v i n,J,L,N]
  ·obtain⟨z,B,C⟩:=w e;rw[Tp (by simp),z,Tr (by rfl)];simp only;generalize (iD T S A (v.map (rr T S)) i M).1=x at *;have o:vJ (v.map (rr T S)) (i+1) (i :: K.drop (bN (v.map (rr T S)) i).need):=by
    obtain⟨c,r,s,-⟩:=zK (bN (v.map (rr T S)) i).need i K d C;exact⟨rfl,c,by rw[qx];exact r,s⟩
   have:=I (i+1) (M++[x]) (i :: K.drop (bN (v.map (rr T S)) i).need) (by omega) (by simp[f]) (fun y H=>by
    rcases Ug.1 H with h | h
    ·exact p y h
    ·rw[TI.1 h];exact B) o (fun k E=>by
    rcases Ub.1 E with h | h
    ·omega
    ·have:=j k (Wf h);omega)
   rw[this,Xf,Uh];congr 3
   ·congr 1
    ·apply VH;intro q F;exact MU M x q (by rw[f];exact j q (Wf (List.mem_reverse.1 F)))
    ·show [(M++[x]).getD i []]=[x]
     rw[<-f,MV]
end
def EK(l:List St)(a:Nat)(L:List kD):Prop:=∀i s,L[i]?=some s->s.XU=1∨RY l a i s
theorem EK.snoc{s:kD}(h:EK H w v)(d:s.XU=1∨RY H w v.length s):EK H w (v++[s]):=fun i x a=>by
 by_cases c:i<v.length
 ·rw[TQ c]at a;exact h i x a
 ·have b:=(TA.1 a).1;rw[Tv,V8]at b;have e:i=v.length:=by omega
  subst e;rw[TJ (Tq _),Uz]at a;rw[<-UQ a];exact d
theorem EK.nil:EK o D []:=fun i s h=>by cases h
theorem xE(h:jH H y w=some b):EP H w b:=by
 unfold jH at h;have a:=Vh h;unfold mR at a;split at a
 ·next s c =>
  simp only[Bool.and_eq_true,Bool.not_eq_true']at a;exact⟨s,c,a.1.2,a.2⟩
 ·cases a
theorem Iv(h:b∈aP H w):EP H w b:=by
 unfold aP eN at h;have a:=(Uk.1 h).2;unfold nL at a;split at a
 ·next s e =>
  rw[TN]at a;refine⟨s,e,?_,a.1⟩;have c:=a.2;unfold qK at c;split at c
  ·next d =>
   have:s.XU=2:=(by simpa using d);rw[this];rfl
  ·have:s.XU=3:=(by simpa using c);rw[this];rfl
 ·cases a
theorem Nt(c:List (Xs×Pl)):∀a,EK H w a->EK H w (dN H w t c a).1:=by
 induction c with
 | nil=>intro a h;rw[dN];split;exact EK.nil H w;exact h
 | cons x r b =>
  intro a h;obtain⟨e,p⟩:=x;rw[dN];split
  ·exact b _ (h.snoc (TH rfl))
  ·split
   ·exact EK.nil H w
   ·next n d=>exact b _ (h.snoc (TE (TE ⟨rfl,xE d⟩)))
structure Jd(l:List St)(a:Nat)(c:lC):Prop where
 n:∀x∈c.XX,EP l a x
 t:∀x∈c.XM,x<c.steps.length
 s:EK l a c.steps
 b:c.behind=true->0<c.steps.length
theorem u9(h:w<g.length):g.getD w 0∈g:=by
 rw[To,Tn h];exact TP h
theorem Jd.let{c:lC}(h:Jd H w c)(n:Nat)(p:Pl):Jd H w (bI c n p).2:=by
 have d:∀x,x<c.steps.length->∀s:kD,x<(c.steps++[s]).length:=fun x a s=>by rw[Tv];omega
 unfold bI;split
 ·unfold fm dP;split
  ·next e=>exact⟨h.n,fun x a=>d x (h.t x a) _,h.s.snoc (TE (TE ⟨rfl,h.n _ (u9 e)⟩)),fun _=>by simp⟩
  ·split
   ·next e=>exact⟨h.n,fun x a=>d x (h.t x a) _,h.s.snoc (TE (TH ⟨rfl,h.t _ (u9 e)⟩)),fun _=>by simp⟩
   ·exact⟨h.n,h.t,h.s,h.b⟩
 ·split
  ·unfold jL;split <;> exact⟨h.n,h.t,h.s,fun h=>by cases h⟩
  ·split
   ·next f =>
    refine⟨h.n,fun x a=>?_,h.s,fun h=>by cases h⟩;rcases Ug.1 a with a | a
    ·exact h.t x a
    ·have:=h.b f.2;have:=TI.1 a;show x<c.steps.length;omega
   ·split
    ·exact⟨h.n,fun x a=>d x (h.t x a) _,h.s.snoc (TH rfl),fun h=>by cases h⟩
    ·exact h
theorem Ph(X:List (Nat×Pl)):∀c,Jd H w c->Jd H w (Bl X c).2:=by
 induction X with
 | nil=>intro c h;exact h
 | cons x r a =>
  intro c h;rw[Bl];split
  ·exact a _ (h.let _ _)
  ·exact h.let _ _
theorem Jt(c:List (Xs×Pl)):∀i b,(∀x∈b,EP H w x)->∀x∈(b8 H w t i c b).2,EP H w x:=by
 induction c with
 | nil=>intro i b h;exact h
 | cons y r e =>
  intro i b h;obtain⟨f,p⟩:=y;rw[b8];split
  ·exact h
  ·split
   ·exact h
   ·next n d =>
    split
    ·exact h
    ·refine e _ _ (fun x a=>?_);rcases Ug.1 a with a | a
     ·exact h x a
     ·rw[TI.1 a];exact xE d
theorem un:EK o I (dC o I u).1:=by
 unfold dC;split
 ·unfold kP mZ zL;split
  ·split
   ·split
    ·exact EK.nil o I
    ·have b:Jd o I ⟨(b8 o I u.XY 1 (u.XK.drop 1) (aP o I)).2,[],[],0,false⟩:=⟨Jt _ _ _ _ (fun x a=>Iv a),(fun x a=>by cases a),EK.nil o I,fun h=>by cases h⟩
     unfold Cs;split
     ·rw[AI];exact(Ph _ _ b).s
     ·exact b.s
   ·exact EK.nil o I
  ·exact EK.nil o I
 ·exact Nt _ _ _ (EK.nil o I)
theorem Fi{p q:Nat->Bool}(h:∀i,i<w->p i=q i):(List.range w).find? p=(List.range w).find? q:=by
 have:∀L:Xv,(∀i∈L,p i=q i)->L.find? p=L.find? q:=by
  intro L
  induction L with
  | nil=>intro _;rfl
  | cons x r b =>
   intro h;rw[WO,WO,h x Ue,b (fun i a=>h i (Ud _ a))]
 exact this _ (fun i a=>h i (TG.1 a))
theorem MY:ig (M.map (rr L x))=match uH M with | some i=>(i:Int) | none=>-1:=by
 unfold ig uH;rw[TT];have e:(List.range M.length).find? (wy (M.map (rr L x)))=(List.range M.length).find? (fun i=>match M[i]? with | some s=>s.XU==1 | none=>false):=by
  apply Fi;intro i a;unfold wy;rw[mK M i a,Tn a];simp only;unfold rr;split
  ·next h=>rw[h];rfl
  ·next h =>
   have:(M[i].XU==1)=false:=TU.2 h;rw[this];split
   ·simp only;rw[TU];omega
   ·rfl
 rw[e];cases (List.range M.length).find? (fun i=>match M[i]? with | some s=>s.XU==1 | none=>false) <;> rfl
def Oq(r:Rw):iq:=⟨r.XV,r.XF,r.why,r.at_.XZ,r.at_.X0,r.at_.X3⟩
def nf(r:Rw):Rw:=if r.XF=5 then { r with XF:=4 } else r
theorem E8(R:pu×lC):((mZ t R).2.1==0)=true->0<(mZ t R).1.length:=by
 unfold mZ;split
 ·split
  ·split
   ·intro h;cases h
   ·intro _;show 0<R.2.steps.length;omega
  ·intro h;cases h
 ·next a=>intro h;exact absurd h a
theorem FP(b:List (Xs×Pl)):∀a,((dN o I t b a).2.1==0)=true->0<(dN o I t b a).1.length:=by
 induction b with
 | nil =>
  intro a;rw[dN];split
  ·intro h;cases h
  ·intro _;show 0<a.length;omega
 | cons x r c =>
  intro a;obtain⟨d,p⟩:=x;rw[dN];split
  ·exact c _
  ·split
   ·intro h;cases h
   ·exact c _
theorem Ky:((dC o I u).2.1==0)=true->0<(dC o I u).1.length:=by
 unfold dC;split
 ·exact E8 _ _
 ·exact FP _ _ _ _ _
theorem GL(Y:Sx k n H w b (rQ H w) (gM H w (rQ H w))){t:Tk}(E:i.XV=bS k (aq n b))(B:i.XY=nr t)(A:i.Xz=bb k n b)(L:List Rw) :
  lA k n b (rg k n (dC H w i)) t=Oq (nf (dr H w i L)):=by
 have v:=un H w i;have s:=Ky H w i;unfold lA dr;have y:(rg k n (dC H w i)).st=(dC H w i).1.map (rr k n):=rfl;have z:(rg k n (dC H w i)).why=(dC H w i).2.1:=rfl;have l:(rg k n (dC H w i)).XZ=(dC H w i).2.2.XZ/\(rg k n (dC H w i)).X0=(dC H w i).2.2.X0/\(rg k n (dC H w i)).X3=(dC H w i).2.2.X3:=⟨rfl,rfl,rfl⟩;rw[y,z,l.1,l.2.1,l.2.2,MY,<-E];generalize dC H w i=q at *;obtain⟨a,f⟩:=q;simp only at v s ⊢;cases j:(f.1==0)
 ·rw[Tr rfl,Tp (by simp)];unfold kG;rw[Tp (by rw[j];simp)];rfl
 ·rw[Tp (by simp)];have o:f.1=0:=by simpa using j
  cases c:uH a with
  | some u =>
   have e:u<a.length:=by
    unfold uH at c;exact TG.1 (Us c)
   simp only;rw[Tr (by omega),Ur,mK a u e,Tp (by simp)];obtain⟨G,I,J⟩:=CS (T:=k) (S:=n) a[u];unfold kG;rw[Tr j,c];simp only;rw[Tn e,G,I,J,o];rfl
  | none =>
   simp only;rw[Tp (by omega),Tr (by simp),TT];have r:=s j;have p:∀d (h:d<a.length),RY H w d a[d]:=fun d h=>by
    rcases v d a[d] (Tn h) with m | m
    ·unfold uH at c;rw[UE]at c;have:=c d (TG.2 h);rw[Tn h]at this;simp only at this;rw[m]at this;exact absurd rfl this
    ·exact m
   have:=PU Y r p i.XV t a.length 0 [] [] (by omega) rfl (fun x F=>by cases F) rfl (fun K D=>by cases D);rw[this,We];unfold fR;rw[B,A];show Al i.XV (kB H (rQ H w) (gM H w (rQ H w)) (nr t) (bb k n b) a ([],[]))=_;generalize kB H (rQ H w) (gM H w (rQ H w)) (nr t) (bb k n b) a ([],[])=g;unfold Al kG;cases C:(g.1==0)
   ·rw[Tp (by simp),Tp (by simp)];rfl
   ·rw[Tr rfl,Tr rfl,c];simp only;split <;> rfl
theorem Ji(c:w<=b)(h:aO x w b=true)(m:Nat):b+m<=x.length->aO x b (b+m)=true->aO x w (b+m)=true:=by
 induction m with
 | zero=>intro _ _;exact h
 | succ m d =>
  intro f a;have e:=AS x w b c (by omega) h b c (Tq _);rw[<-V6,oO x b (b+m) (by omega) (by omega),TN]at a;rw[<-V6,oO x w (b+m) (by omega) (by omega),d (by omega) a.1];have:=Xe a.2;simp only[Bool.true_and,decide_eq_true_eq];omega
theorem E0{n:Nat}(c:w<=b)(e:b<=n)(d:n<=x.length)(h:aO x w b=true)(a:aO x b n=true):aO x w n=true:=by
 obtain⟨m,rfl⟩:∃m,n=b+m:=⟨n-b,by omega⟩
 exact Ji x c h m d a
section
variable {T:List Tk} {S:List Sm} {f:Nat}
theorem Of(P:tE T S w)(d:b<(bB T (aq S w).h).length):(if(((aq S w).k.toList == [36,99])||((aq S w).k.toList == [36,118]))=true then j7 T S (bB T (aq S w).h)[b] w ((aq S w).k.toList == [36,99]) (eG T (aq S w).h ((aq S w).h+b)) else im T S (aq S w).k (bB T (aq S w).h)[b] w (eG T (aq S w).h ((aq S w).h+b)))=0/\(eG T (aq S w).h ((aq S w).h+b)).length=b:=by
 have C:=P.zt;have v:=P.pos;have e:=P.le;have c:=qz T (aq S w).h b d;rw[To,Tn d]at c;have c:(bB T (aq S w).h)[b]=tS T ((aq S w).h+b):=c;have i:=uD P;have B:(bB T (aq S w).h).length<=(aq S w).z-1-(aq S w).h:=by
  rw[i,<-nH T (aq S w).h ((aq S w).z-1) e (by omega)];exact(List.takeWhile_sublist _).length_le
 have j:∀y∈bB T (aq S w).h,(y.toList == [36,61])=false:=fun y n=>by
  rw[i]at n;have:=List.all_takeWhile (p:=jz) (l:=eG T (aq S w).h ((aq S w).z-1));rw[Uw]at this;have:=this y n;unfold jz at this;simpa using this
 obtain⟨u,t⟩:=P.w ((aq S w).h+b) (by omega) (by omega);have s:aK (eG T (aq S w).h ((aq S w).h+b)) ⟨#[36,61]⟩=false:=by
  cases r:aK (eG T (aq S w).h ((aq S w).h+b)) ⟨#[36,61]⟩
  ·rfl
  ·obtain⟨q,x,A,o⟩:=wF (by omega) (by omega) r;have a:q-(aq S w).h<(bB T (aq S w).h).length:=(by omega);have f:=qz T (aq S w).h (q-(aq S w).h) a;rw[To,Tn a,show(aq S w).h+(q-(aq S w).h)=q by omega,o]at f;have g:=j _ (TP a);rw[show(bB T (aq S w).h)[q-(aq S w).h]=(⟨#[36,61]⟩:Xs) from f]at g;exact absurd g (by decide +kernel)
 have m:=ut u t (by rw[<-c];exact j _ (TP d)) s;rw[<-c]at m;exact⟨m,by rw[nH T _ _ (by omega) (by omega)];omega⟩
theorem yM(P:tE T S w)(c:(aA (aq S w).k||((aq S w).k.toList == [36,101]))=true)(l:y∈bB T (aq S w).h):eM T S y w=true∨∃m,m<w/\rU T S y w m=true:=by
 obtain⟨i,j,e⟩:=Uy l;obtain⟨a,-⟩:=Of P j;rw[e]at a;have b:(((aq S w).k.toList == [36,99])||((aq S w).k.toList == [36,118]))=false/\((aq S w).k.toList == [36,100])=false/\((aq S w).k.toList == [36,102])=false:=by
  unfold aA at c;simp only[Bool.or_eq_true]at c;rcases c with (h | h) | h <;> (rw[cC h,cC h,cC h,cC h];decide)
 rw[b.1,Tp (by simp)]at a;unfold im at a;rw[b.2.1,b.2.2,Tp (by simp)]at a;cases g:eM T S y w
 ·right
  rw[g]at a;split at a
  ·simp at a
  ·rw[Tp (by simp),Tp (by simp)]at a;split at a
   ·cases a
   ·split at a
    ·cases a
    ·next d =>
     unfold gK at d;split at d
     ·next m f=>exact⟨m,TG.1 (Us f),Vh f⟩
     ·omega
 ·exact TH rfl
theorem Sa(P:tE T S w)(a:((aq S w).k.toList == [36,102])=true):(bB T (aq S w).h).length<=2:=by
 by_cases h:2<(bB T (aq S w).h).length
 ·obtain⟨b,c⟩:=Of P h;rw[cC a,cC a,Tp (by decide)]at b;unfold im at b;rw[c,a,cC a,Tp (by decide),Tp (by decide),Tr rfl,Tr (by decide)]at b;cases b
 ·omega
theorem IA(h:mP T S y w=true):(aA (aq S w).k||aH (aq S w).k)=true/\bS T (aq S w)=y:=by
 unfold mP at h;rw[TN]at h;refine⟨?_,uR (by simpa using h.2)⟩;cases e:(aA (aq S w).k||aH (aq S w).k)
 ·have:bS T (aq S w)=⟨#[]⟩:=by unfold bS;rw[Tp (by rw[e];simp)]
  rw[this,Uo]at h;simp at h
 ·rfl
theorem Nj(p:Cw T T.length S f)(k:∀q,q<T.length->aY T S q=0)(x:b<S.length)(r:w<b)(C:mP T S y w=true)(D:mP T S y b=true):False:=by
 obtain⟨P,F⟩:=p.s b x;obtain⟨d,n⟩:=IA D;have t:=P.lt;have g:=Co p b x (aq S b).a (Tq _) t;rw[Tr rfl,k _ (by omega)]at g;have u:tS T (aq S b).a=y:=by
  unfold bS at n;rw[Tr d]at n;exact n
 rw[u]at g;have v:=P.k;unfold eu at v;by_cases o:(ij (tS T (aq S b).a) ⟨#[36]⟩||decide (T.length<=(aq S b).a+1))=true
 ·rw[Tr o]at v;have z:(aq S b).k=y:=by rw[<-u];exact congrArg Prod.fst v
  rw[z]at d;unfold dE at g;have j:((y.toList == [36,123])||((y.toList == [36,118])||(y.toList == [36,100])))=false/\(y.toList == [36,125])=false/\(y.toList == [36,99])=false:=by
   unfold aA aH at d;simp only[Bool.or_eq_true]at d;rcases d with (h | h) | (h | h) <;> (rw[cC h,cC h,cC h,cC h,cC h];decide)
  rw[j.1,j.2.1,j.2.2,d,Tp (by simp),Tp (by simp),Tp (by simp),Tp (by simp),Tp (by simp),Tr rfl]at g;cases g
 ·have i:ij y ⟨#[36]⟩=false:=by
   rw[<-u];cases e:ij (tS T (aq S b).a) ⟨#[36]⟩
   ·rfl
   ·rw[e]at o;exact absurd rfl o
  have c:∀l:List UInt8,l=[36,123]∨l=[36,118]∨l=[36,100]∨l=[36,125]∨l=[36,99]∨l=[36,97]∨l=[36,112]∨l=[36,102]∨l=[36,101]->(y.toList==l)=false:=fun l n=>by
   cases e:(y.toList==l)
   ·rfl
   ·have B:(⟨⟨l⟩⟩:Xs).toList=l:=(by rw[Uo]);have A:y=⟨⟨l⟩⟩:=uR (by rw[B];simpa using e);rw[A]at i;rcases n with rfl | rfl | rfl | rfl | rfl | rfl | rfl | rfl | rfl <;> exact absurd i (by decide +kernel)
  unfold dE aA aH at g;rw[c [36,123] (by simp),c [36,118] (by simp),c [36,100] (by simp),c [36,125] (by simp),c [36,99] (by simp),c [36,97] (by simp),c [36,112] (by simp),c [36,102] (by simp),c [36,101] (by simp),i]at g;simp only[Bool.or_self,Bool.false_and,Bool.false_eq_true,if_false]at g;split at g
  ·cases g
  ·split at g
   ·cases g
   ·next E =>
    apply E;unfold jM;have:0<=bC T S y b:=by
     unfold bC;cases e:(List.range b).find? (mP T S y) with
     | none =>
      rw[UE]at e;exact absurd C (e w (TG.2 r))
     | some m=>show(0:Int)<=(m:Int);omega
    rw[UR this];rfl
end
theorem F7(c:Xs):c∈bL L x m D ↔ ∃i,i<D/\so x m i=true/\c=(bb L x (m.getD i 0)).getD 1 ⟨#[]⟩:=by
 unfold bL s9;rw[UG];constructor
 ·rintro ⟨i,d,rfl⟩;obtain⟨a,b⟩:=Uk.1 d;exact⟨i,TG.1 a,b,rfl⟩
 ·rintro ⟨i,a,b,rfl⟩;exact⟨i,Uk.2 ⟨TG.2 a,b⟩,rfl⟩
theorem NO(h:∀j∈m,((aq x j).k.toList == [36,102])=true->(bb L x j).getD 1 ⟨#[]⟩=tS L ((aq x j).h+1)):∀k,k<=m.length->fU L x m k=bL L x m k:=by
 intro k
 induction k with
 | zero=>intro _;rfl
 | succ k b =>
  intro c;have a:k<m.length:=by omega
  rw[qP,<-b (by omega)];unfold fU so;rw[Up a,UI,Uh,To,Tn a];congr 1;show _=if((aq x m[k]).k.toList == [36,102])=true then [(bb L x m[k]).getD 1 ⟨#[]⟩] else [];split
  ·next e=>rw[Xl,Tr e,WM,h _ (TP a) e];rfl
  ·next e=>rw[Xl,Tp e,WM];rfl
theorem NB(h:N.Pairwise (fun x y=>x≠y)):Jf N:=by
 intro i j a b;rw[VO]at h;have:=h i j (by omega) b a;rw[To,To,Tn (show i<N.length by omega),Tn b,TU];exact fun e=>this (uR e)
theorem JX(d:w<(a9 L x D).length)(f:b<(a9 L x D).length)(h:(a9 L x D)[b]<(a9 L x D)[w]):b<w:=by
 have a:(a9 L x D).Pairwise (· < ·):=WK _ V3;rw[VO]at a;by_cases e:b<w
 ·exact e
 ·by_cases c:b=w
  ·subst c;omega
  ·have:=a w b d f (by omega);omega
theorem Mk:y∈rQ H w ↔ ∃n s,H[n]?=some s/\(s.XU==2)=true/\fE H n w=true/\y=aN s:=by
 unfold rQ qr;rw[VM];constructor
 ·rintro ⟨n,d,e⟩;unfold vM at e;split at e
  ·next s a =>
   split at e
   ·next h=>exact⟨n,s,a,h.1,h.2,(UQ e).symm⟩
   ·cases e
  ·cases e
 ·rintro ⟨n,s,a,b,c,rfl⟩;refine⟨n,TG.2 (TA.1 a).1,?_⟩;unfold vM;rw[a];simp only;rw[Tr ⟨b,c⟩]
section
variable {T:List Tk} {d:Db}
theorem gB.inj(R:gB T d)(a:w<d.XQ.length)(c:b<d.XQ.length)(h:aw (aa T) w=aw (aa T) b):w=b:=by
 have f:=R.hel.len;rcases Wx w b with e | e | e
 ·have:=ge (S:=aa T) e (by omega);omega
 ·exact e
 ·have:=ge (S:=aa T) e (by omega);omega
theorem gB.ltOf(R:gB T d)(c:w<d.XQ.length)(h:aw (aa T) w<aw (aa T) b):w<b:=by
 have a:=R.hel.len;rcases Wx w b with e | e | e
 ·exact e
 ·rw[e]at h;omega
 ·have:=ge (S:=aa T) e (by omega);omega
theorem gB.rcOf(R:gB T d){j:Nat}(b:j<(aa T).length)(h:kF (aa T) j=true):∃n,n<d.XQ.length/\aw (aa T) n=j:=by
 have a:j∈lF (aa T):=Uk.2 ⟨TG.2 b,h⟩;rw[uo]at a;obtain⟨n,c,e⟩:=UG.1 a;exact⟨n,by rw[R.hel.len];exact TG.1 c,e⟩
theorem gB.sget(R:gB T d)(e:d.XQ[w]?=some i):fn (aq (aa T) (aw (aa T) w)).k.toList i.XU/\i.XV=bS T (aq (aa T) (aw (aa T) w))/\i.Xz=bb T (aa T) (aw (aa T) w):=by
 obtain⟨a,b,c,-⟩:=R.ct w i e;exact⟨a,b,c⟩
theorem gB.use(R:gB T d)(t:∀q,q<T.length->aY T (aa T) q=0)(G:∀(n:Nat) (s:St),d.XQ[n]?=some s->oB s.XU=true->s.til=0)(A:w<d.XQ.length)(x:Xs)(I:(x.toList == [])=false):R6 T (aa T) d.XQ w (aw (aa T) w) x:=by
 have K:=R.hel.at_ A;have p:=dO T;have i:∀{n:Nat} {s:St},d.XQ[n]?=some s->n<d.XQ.length->(s.XU==1)=false->s.XV=x->mP T (aa T) x (aw (aa T) n)=true:=fun {n s} c l H C=>by
  obtain⟨r,y,-⟩:=R.sget c;unfold mP;rw[<-y,C,I];simp
 unfold R6;cases u:jH d.XQ x w with
 | some n =>
  right
  obtain⟨s,c,H,o⟩:=xE u;have l:=(TA.1 c).1;have v:s.XV=x:=by
   have:=Vh u;unfold mR at this;rw[c]at this;simp only[Bool.and_eq_true]at this;exact uR (by simpa using this.1.1)
  have z:=i c l H v;obtain⟨r,y,-⟩:=R.sget c;have m:n<w:=by
   unfold fE at o;rw[c]at o;simp only[Bool.and_eq_true,decide_eq_true_eq]at o;exact o.1
  have E:=ge (S:=aa T) m (by rw[<-R.hel.len];exact A);have D:bC T (aa T) x (aw (aa T) w)=(aw (aa T) n:Nat):=by
   apply ud E z;intro j B;cases e:mP T (aa T) x j
   ·rfl
   ·exact(Nj p t (by omega) B e z).elim
  refine⟨n,rfl,l,?_⟩;unfold dY;rw[D,Tp (by omega),Ur,Tr];cases b:oB s.XU
  ·rw[R.held c b A,TN]at o;rw[o.2,Ww]
  ·have:aA (aq (aa T) (aw (aa T) n)).k=true:=by
    unfold aA;rw[<-(cn r).2.2.2];exact b
   rw[this,Vo]
 | none =>
  left
  refine⟨rfl,?_⟩;unfold dY;split
  ·omega
  ·next g =>
   rw[Tp]
   ·omega
   ·intro f;unfold bC at g f;cases e:(List.range (aw (aa T) w)).find? (mP T (aa T) x) with
    | none=>rw[e]at g;exact g (by simp)
    | some j =>
     rw[e]at f;simp only[Int.toNat_natCast]at f;have B:=TG.1 (Us e);have z:=Vh e;obtain⟨a,C⟩:=IA z
     obtain⟨n,l,F⟩:=R.rcOf (j:=j) (by omega) (by
      unfold kF;unfold aA aH at a;simp only[Bool.or_eq_true]at a ⊢;rcases a with (h | h) | (h | h)
      ·exact TH (TE h)
      ·exact TE h
      ·exact TH (TH (TH (TE h)))
      ·exact TH (TH (TE h)))
     subst F;obtain⟨s,c,r,y,J⟩:=R.get l;have m:=R.ltOf l B;unfold jH at u;rw[UE]at u;apply u n (TG.2 l);unfold mR;rw[c];simp only[Bool.and_eq_true];refine⟨⟨by rw[y,C];simp,?_⟩,?_⟩
     ·rw[(cn r).2.2.1];unfold aA aH at a;simp only[Bool.or_eq_true]at a;rcases a with (h | h) | (h | h) <;> (rw[cC h];decide)
     ·cases b:oB s.XU
      ·rw[R.held c b A,UR B];have:aA (aq (aa T) (aw (aa T) n)).k=false:=by
        unfold aA;rw[<-(cn r).2.2.2];exact b
       rw[this,UN]at f;rw[f];rfl
      ·unfold fE;rw[c];simp only;rw[G n s c b,UR m];rfl
theorem gB.apAll(R:gB T d)(f:w<d.XQ.length)(h:Jf N)(i j:Nat)(a:i<N.length)(b:j<N.length):fH N.length (gM d.XQ w N) i j=eB T (aa T) (N.getD i ⟨#[]⟩) (N.getD j ⟨#[]⟩) (aw (aa T) w):=by
 have c:∀x y,eB T (aa T) x y (aw (aa T) w)=eB T (aa T) y x (aw (aa T) w):=fun x y=>by
  unfold eB;congr 1
  funext j
  unfold QC;have e:(x.toList==y.toList)=(y.toList==x.toList):=by rw[UL,Vb,Vb];exact⟨Eq.symm,Eq.symm⟩
  rw[e];cases aK (bB T (aq (aa T) j).h) x <;> cases aK (bB T (aq (aa T) j).h) y <;> rfl
 rw[Jk _ _ _ _ _ a b];rcases Wx i j with e | e | e
 ·rw[R.tog f h a b e,TU.2 (by omega)];rfl
 ·subst e;rw[WF];unfold eB
  symm
  rw[Wm,Vs];apply uQ;intro j _;unfold QC;rw[WF];simp
 ·rw[c,<-R.tog f h b a e,TU.2 (by omega)];have:yS d.XQ w N d.XQ.length i j=yS d.XQ w N d.XQ.length j i:=by
   unfold yS;congr 1
   funext n
   rw[Wu,Wu,Xi ((bM N (Go.Proofs.YtnbhnocdhbcbcaaGreat.symsAt d.XQ n)).contains i)]
  rw[this];rfl
theorem gB.fvar(R:gB T d)(j:RV T (aa T))(f:d.XQ[w]?=some i)(c:(i.XU==2)=true):aN i=tS T ((aq (aa T) (aw (aa T) w)).h+1)/\((aq (aa T) (aw (aa T) w)).k.toList == [36,102])=true/\(bb T (aa T) (aw (aa T) w)).getD 1 ⟨#[]⟩=tS T ((aq (aa T) (aw (aa T) w)).h+1):=by
 have m:=(TA.1 f).1;obtain⟨l,-,b⟩:=R.sget f;have e:((aq (aa T) (aw (aa T) w)).k.toList == [36,102])=true:=by rw[<-(cn l).2.1];exact c
 obtain⟨g,a⟩:=j _ (R.hel.at_ m) e;refine⟨?_,e,a⟩;unfold aN;rw[Tr ⟨c,by rw[b];exact g⟩,b];exact a
theorem gB.avOf(R:gB T d)(l:RV T (aa T))(j:w<d.XQ.length)(m:b<aw (aa T) w)(c:((aq (aa T) b).k.toList == [36,102])=true)(a:aO (aa T) b (aw (aa T) w)=true):tS T ((aq (aa T) b).h+1)∈rQ d.XQ w:=by
 have p:=R.hel.at_ j;obtain⟨n,o,rfl⟩:=R.rcOf (j:=b) (by omega) (by unfold kF;rw[c];simp);obtain⟨s,f,i,-,-⟩:=R.get o;have g:(s.XU==2)=true:=by rw[(cn i).2.1];exact c
 have e:oB s.XU=false:=by rw[(cn i).2.2.2,cC c,cC c];decide
 rw[Mk];exact⟨n,s,f,g,by rw[R.held f e j,UR m,a];rfl,(R.fvar l f g).1.symm⟩
end
theorem rW.avd{d:Db}(F:rW d):Jf (rQ d.XQ w):=by
 apply NB;unfold rQ qr;rw[List.pairwise_filterMap];refine List.pairwise_lt_range.imp_of_mem (fun {n m} hn hm hnm=>?_);intro x a y b;unfold vM at a b;split at a
 ·next s g =>
  split at a
  ·next l =>
   split at b
   ·next u i =>
    split at b
    ·next o =>
     have j:s.XU=2:=(by simpa using l.1);have k:u.XU=2:=(by simpa using o.1);have r:s.til=0∨m<s.til:=by
      have c:=l.2;have f:=o.2;unfold fE at c f;rw[g]at c;rw[i]at f;simp only[Bool.and_eq_true,Bool.or_eq_true,decide_eq_true_eq,beq_iff_eq]at c f;rcases c.2 with h | h
      ·exact TH h
      ·exact TE (by omega)
     have:=F.ds n m s u g i j k hnm r;have p:aN s=vr s:=(by unfold aN vr;rw[Tr ⟨by rw[j];rfl,F.fl n s g j⟩]);have q:aN u=vr u:=(by unfold aN vr;rw[Tr ⟨by rw[k];rfl,F.fl m u i k⟩]);have a:aN s=x:=UQ a;have b:aN u=y:=UQ b;rw[<-a,<-b,p,q];intro e;rw[e]at this;simp at this
    ·cases b
   ·cases b
  ·cases a
 ·cases a
theorem Oy(d:w<=b)(f:b<=n.length)(h:iG k n y w=true)(c:aO n w b=true):iG k n y b=true:=by
 unfold iG jG at h ⊢;obtain⟨m,a,e⟩:=Ut.1 h;have a:=TG.1 a;unfold oQ at e;simp only[Bool.and_eq_true,Bool.or_eq_true,Bool.not_true,Bool.false_eq_true,or_false]at e;refine nc m (by omega) ?_;unfold oQ;rw[e.1,e.2.1,E0 n (by omega) d f e.2.2 c];rfl
theorem M1(d:b<w)(c:((aq n b).k.toList == [36,102])=true)(a:aO n b w=true)(e:tS k ((aq n b).h+1)∈uI k n w):b∈a9 k n w:=by
 refine Uk.2 ⟨TG.2 d,?_⟩;unfold t7;rw[a,c,(Ir _ _).2 e];simp
theorem M3(h:b∈a9 k n w):∃a,∃(c:a<(a9 k n w).length),(a9 k n w)[a]=b/\(a9 k n w).getD a 0=b:=by
 obtain⟨a,c,e⟩:=Uy h;exact⟨a,c,e,by rw[To,Tn c];exact e⟩
theorem Fl(h:rU k n y w b=true):((aq n b).k.toList == [36,102])=true/\tS k ((aq n b).h+1)=y/\aO n b w=true:=by
 unfold rU at h;simp only[Bool.and_eq_true]at h;exact⟨h.1,(xf _ _).1 h.2.1,h.2.2⟩
theorem qD(h:b∈aP H w):∃s,H[b]?=some s/\((s.XU==2)=true∨(s.XU==3)=true)/\fE H b w=true:=by
 unfold aP eN at h;have a:=(Uk.1 h).2;unfold nL at a;split at a
 ·next s e =>
  rw[TN]at a;refine⟨s,e,?_,a.1⟩;have c:=a.2;unfold qK at c;split at c
  ·next d=>exact TH d
  ·exact TE c
 ·cases a
section
variable {T:List Tk} {d:Db}
theorem gB.rcIs(R:gB T d)(a:w<d.XQ.length):kF (aa T) (aw (aa T) w)=true:=by
 have h:aw (aa T) w∈lF (aa T):=by
  unfold aw;rw[To,Tn (by rw[<-R.hel.len];exact a)];exact TP _
 exact(Uk.1 h).2
theorem gB.hyE(R:gB T d)(F:rW d)(f:∀q,q<T.length->aY T (aa T) q=0)(K:w<d.XQ.length):SD T (aa T) d.XQ (aP d.XQ w):=by
 have E:=R.flo F;have p:=dO T;have G:=R.hyps E K;have hN:=R.hel.at_ K;have b:∀i,i<(aP d.XQ w).length->((aP d.XQ w).map (aw (aa T))).getD i 0=aw (aa T) ((aP d.XQ w).getD i 0):=fun i a=>by
  rw[To,Ua,To,Tn a];rfl
 have g:∀i,i<(aP d.XQ w).length->(aP d.XQ w).getD i 0∈aP d.XQ w:=fun i a=>u9 a;have D:∀{m:Nat} {s:St},d.XQ[m]?=some s->d.XQ.getD m zu=s:=fun {m s} h=>by rw[To,h];rfl
 refine⟨fun i a=>?_,fun i a=>?_,fun i a n=>?_,fun i a n x N S=>?_⟩
 ·obtain⟨s,c,j,-⟩:=qD (g i a);obtain⟨o,-,-⟩:=R.sget c;unfold so;rw[b i a,D c,<-(cn o).2.1];rcases j with h | h
  ·rw[h];have:s.XU=2:=by simpa using h
   rw[this];rfl
  ·rw[h];have:s.XU=3:=by simpa using h
   rw[this];rfl
 ·obtain⟨s,c,j,-⟩:=qD (g i a);obtain⟨-,-,X⟩:=R.sget c;rw[b i a,D c,X]
 ·obtain⟨s,c,j,-⟩:=qD (g i a);obtain⟨o,-,-⟩:=R.sget c;unfold so at n;rw[b i a]at n ⊢;rw[<-(cn o).2.1]at n;obtain⟨r,-,B⟩:=R.fvar E c n;rw[D c,r,B]
 ·obtain⟨s,c,j,A⟩:=qD (g i a);obtain⟨o,-,-⟩:=R.sget c;have Z:=(TA.1 c).1;unfold so at n;rw[b i a]at n N;have t:((aq (aa T) (aw (aa T) ((aP d.XQ w).getD i 0))).k.toList == [36,101])=true:=by
   rw[<-(cn o).1];rcases j with h | h
   ·rw[(cn o).2.1,n]at h;cases h
   ·exact h
  have C:oB s.XU=false:=by rw[(cn o).2.2.2,cC t,cC t];decide
  rw[R.held c C K,TN,UH]at A;have W:=R.hel.at_ Z;have P:=ly p f _ W (fO t (by decide));rw[F7]at S;rcases yM P (by rw[t];simp) N with H | ⟨m,J,Y⟩
  ·exfalso
   obtain⟨k,j,l,rfl⟩:=S;unfold so at l;rw[b k j]at l H;obtain⟨u,L,-,-⟩:=qD (g k j);have M:=R.hel.at_ (TA.1 L).1;obtain⟨v1,v2⟩:=MJ (ly p f _ M (fO l (by decide))) l;have e:(bb T (aa T) (aw (aa T) ((aP d.XQ w).getD k 0))).getD 1 ⟨#[]⟩=tS T ((aq (aa T) (aw (aa T) ((aP d.XQ w).getD k 0))).h+1):=v2;rw[e]at H;exact mD p f (by omega) (by omega) H v1
  ·obtain⟨r,Q,B⟩:=Fl Y;have v:=E0 (aa T) (by omega) (by omega) (by omega) B A.2;have L:tS T ((aq (aa T) m).h+1)∈uI T (aa T) (aw (aa T) w):=by
    rw[Q];unfold uI kL;refine Ug.2 (TE (VK.2 ⟨_,Uk.2 ⟨TG.2 A.1,?_⟩,N⟩));unfold yV;rw[t,A.2];rfl
   have z:=M1 (by omega) r v L;obtain⟨k,j,U,O⟩:=M3 z;have y:i<(a9 T (aa T) (aw (aa T) w)).length:=(by rw[<-G,TT];exact a);have V:(a9 T (aa T) (aw (aa T) w))[i]=aw (aa T) ((aP d.XQ w).getD i 0):=by
    have:=b i a;rw[G,To,Tn y]at this;exact this
   have I:=JX T (aa T) (aw (aa T) w) y j (by rw[U,V];exact J);rw[G,F7];refine⟨k,I,by unfold so;rw[O];exact r,?_⟩;rw[O,<-Q];exact(E m (by omega) r).2.symm
theorem gB.py(R:gB T d)(F:rW d)(c:∀q,q<T.length->aY T (aa T) q=0)(D:w<d.XQ.length):Sx T (aa T) d.XQ w (aw (aa T) w) (rQ d.XQ w) (gM d.XQ w (rQ d.XQ w)):=by
 have C:=R.flo F;have p:=dO T;have hA:=R.hel.at_ D;have hD:∀{m:Nat} {s:St},d.XQ[m]?=some s->d.XQ.getD m zu=s:=fun {m s} h=>by rw[To,h];rfl
 have f:∀{m:Nat} {s:St},d.XQ[m]?=some s->nJ d.XQ m=oB s.XU/\oB s.XU=aA (aq (aa T) (aw (aa T) m)).k:=fun {m s} h=>by
  obtain⟨V,-,-⟩:=R.sget h;refine⟨by unfold nJ;rw[h],?_⟩;rw[(cn V).2.2.2];rfl
 have K:∀n,n<d.XQ.length->Jf (zn T (aa T) (aw (aa T) n))/\fU T (aa T) (a9 T (aa T) (aw (aa T) n)) (a9 T (aa T) (aw (aa T) n)).length=zn T (aa T) (aw (aa T) n):=fun n a=>by
  have hN:=R.hel.at_ a;have e:fU T (aa T) (a9 T (aa T) (aw (aa T) n)) (a9 T (aa T) (aw (aa T) n)).length=zn T (aa T) (aw (aa T) n):=NO T (aa T) _ (fun j Y t=>(C j (by have:=qF T (aa T) _ j Y;omega) t).2) _ (Tq _);refine⟨?_,e⟩;rw[<-e,<-R.vars C a];exact F.vsd
 have l:∀{n:Nat},EP d.XQ w n->∃s,d.XQ[n]?=some s/\n<d.XQ.length/\aw (aa T) n<aw (aa T) w/\(aA (aq (aa T) (aw (aa T) n)).k||aH (aq (aa T) (aw (aa T) n)).k)=true/\(oB s.XU=false->aO (aa T) (aw (aa T) n) (aw (aa T) w)=true):=fun {n} h=>by
  obtain⟨s,g,t,z⟩:=h;have a:=(TA.1 g).1;have Z:n<w:=by
   unfold fE at z;rw[g]at z;simp only[Bool.and_eq_true,decide_eq_true_eq]at z;exact z.1
  refine⟨s,g,a,ge Z (by rw[<-R.hel.len];exact D),?_,fun B=>?_⟩
  ·have M:=R.rcIs a;obtain⟨V,-,-⟩:=R.sget g;rw[(cn V).2.2.1]at t;unfold kF at M;rw[t]at M;unfold aA aH;simp only[Bool.or_eq_true,Bool.false_or]at M ⊢;rcases M with ((h | h) | h) | h
   ·exact TE (TH h)
   ·exact TE (TE h)
   ·exact TH (TH h)
   ·exact TH (TE h)
  ·rw[R.held g B D,TN]at z;exact z.2
 have u:∀{k:Xs},(aA k||aH k)=true->ce k=false:=fun {k} t=>by
  unfold aA aH at t;simp only[Bool.or_eq_true]at t;rcases t with (h | h) | (h | h) <;> exact fO h (by decide)
 refine⟨R.apAll D F.avd,fun x hx=>?_,fun n a=>?_,fun n a=>?_,fun n a _=>⟨R.hyE F c a,R.hyps C a⟩,fun n a _=>K n a,fun n a _ i j O Y=>R.apAll a (K n a).1 i j O Y,fun n a=>?_,fun n a o y E hv=>?_,fun n a o=>⟨fun y E=>?_,?_⟩⟩
 ·obtain⟨n,s,g,t,z,rfl⟩:=Mk.1 hx;have a:=(TA.1 g).1;obtain⟨f1,f2,-⟩:=R.fvar C g t;have B:oB s.XU=false:=by rw[show s.XU=2 by simpa using t];rfl
  rw[R.held g B D,TN,UH]at z;rw[f1];exact Oy (by omega) (by omega) (MJ (ly p c _ (R.hel.at_ a) (fO f2 (by decide))) f2).1 z.2
 ·obtain⟨s,g,-⟩:=R.get a;rw[(f g).1,(f g).2]
 ·obtain⟨s,g,-⟩:=R.get a;rw[hD g,(R.sget g).2.2]
 ·obtain⟨s,g,a,A,b,-⟩:=l a;have:=(QE p c (aa T).length (Tq _) _ (R.hel.at_ a) b).1;intro e;rw[e]at this;simp at this
 ·obtain⟨s,g,a,A,b,r⟩:=l a;rw[(f g).1]at o;have r:=r o;have v:=(f g).2;rw[o]at v;rw[<-v,UN]at b;have U:=R.hel.at_ a;have P:=ly p c _ U (u (by rw[<-v,b];rfl));unfold aH at b;cases N:((aq (aa T) (aw (aa T) n)).k.toList == [36,102])
  ·rw[N,UN]at b;rcases yM P (by rw[b];simp) E with G | ⟨m,Q,W⟩
   ·exact(mD p c (by omega) (by omega) G hv).elim
   ·obtain⟨I,L,S⟩:=Fl W;rw[<-L];exact R.avOf C D (by omega) I (E0 (aa T) (by omega) (by omega) (by omega) S r)
  ·have hl:=Sa P N;have E:y∈bB T (aq (aa T) (aw (aa T) n)).h:=E;obtain⟨i,O,e⟩:=Uy E;have H:=qz T (aq (aa T) (aw (aa T) n)).h i O;rw[To,Tn O]at H;have H:y=tS T ((aq (aa T) (aw (aa T) n)).h+i):=(by rw[<-e];exact H);have X:i=0∨i=1:=(by omega);rcases X with rfl | rfl
   ·have G:=Et P (by rw[<-v];unfold aH;rw[N];rfl);rw[Ve]at H;rw[<-H]at G;exact(mD p c (by omega) (by omega) G hv).elim
   ·rw[H];exact R.avOf C D A N r
 ·obtain⟨s,g,a,A,b,-⟩:=l a;rw[(f g).1,(f g).2]at o;have U:=R.hel.at_ a;have P:=ly p c _ U (u b);rcases yM P (by rw[o];rfl) E with G | ⟨m,Q,W⟩
  ·right
   cases e:iG T (aa T) y (aw (aa T) w)
   ·rfl
   ·exact(mD p c (by omega) (by omega) G e).elim
  ·left
   obtain⟨I,L,S⟩:=Fl W;have J:=M1 Q I S (by rw[L];unfold uI kL;exact Ug.2 (TH E));obtain⟨k,t,e1,e2⟩:=M3 J;rw[F7];refine⟨k,t,by unfold so;rw[e2];exact I,?_⟩;rw[e2,<-L];exact(C m (by omega) I).2.symm
 ·obtain⟨s,g,a,A,b,-⟩:=l a;rw[(f g).1,(f g).2]at o;intro Q;have:=Sp p c (aa T).length (Tq _) _ (R.hel.at_ a) o;rw[(Ir _ _).2 Q]at this;cases this
end
end Go.Proofs.YtnbhnocdhbcbcaaGreat
