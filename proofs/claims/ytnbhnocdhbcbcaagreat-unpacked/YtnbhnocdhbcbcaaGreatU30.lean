import Derived.Test.YtnbhnocdhbcbcaaGreatU27
import Derived.Test.YtnbhnocdhbcbcaaGreatU29
namespace Go.Proofs.YtnbhnocdhbcbcaaGreat
open Go.RowKit Tryz
open Value IntKind Ending
set_option maxHeartbeats 0
variable{v:List jg}{g:Xv}{H:List St}{w b:Nat}{y:Xs}{k:List Tk}{n:List Sm}{i:St}{N:Xt}(L:List Tk)(x:List Sm)(m:Xv)(c:List Xt)(p:Xt)(o:List St)(I:Nat)(u:St)(M:List jg)(t:Pl)(D:Nat)
section
variable {T:List Tk} {S:List Sm} {l:List St} {a A:Nat} {Va:Xt} {ms:List Bool}
theorem kE(h:D<M.length):aQ (M.map (kI T S)) D=kI T S M[D]:=by
 unfold aQ;rw[Uc,UL,Ub h];rfl
theorem Di(s:jg):(kI T S s).YB=s.at_.YB/\(kI T S s).YC=s.at_.YC/\(kI T S s).YD=s.at_.YD:=by
 unfold kI;split
 ·exact⟨rfl,rfl,rfl⟩
 ·split <;> exact⟨rfl,rfl,rfl⟩
theorem Ng(h:D<c.length):(c++[p]).getD D []=c.getD D []:=by
 rw[Uc,Uc,Uv h]
theorem Nh:(c++[p]).getD c.length []=p:=by
 rw[Uc,Ur (Ue _),U3];rfl
def AD(lab:Xs)(f:pJ):iH:=if(f.1==0)=true then⟨lab,4,0,⟨#[]⟩,0,0⟩ else⟨lab,2,f.1,f.2.YB,f.2.YC,f.2.YD⟩
theorem NV(s:0<v.length)(a:Xs)(t:Tk){M:List Xt}(i:qz (v.map (kI T S)) v.length g) :
  tu T S A (v.map (kI T S)) a t M=AD a (Ar (nz t) (bb T S A) (g.reverse.map (fun q=>M.getD q []))):=by
 cases g with
 | nil=>have:v.length=0:=i;omega
 | cons k g =>
  obtain⟨p,c,o,j⟩:=i;unfold tu;rw[Uy,p,Vj,o,Xe,UJ];cases g with
  | nil =>
   have m:c=0:=j;rw[m,Ud (show ¬((((0:Nat):Int)==0)=false) by simp)];show _=AD a (Ar (nz t) (bb T S A) [M.getD k []]);unfold Ar;simp only;cases e:lE (bb T S A) (M.getD k [])
   ·rw[Uf rfl,Ud (by
     intro h;have n:=(tV _ _).1 h;have f:=(yY (bb T S A) (M.getD k [])).2 n.symm;rw[e]at f;cases f)]
    rfl
   ·rw[Ud (by simp),Uf ((tV _ _).2 ((yY _ _).1 e).symm)];rfl
  | cons d g =>
   obtain⟨b,-⟩:=j;rw[b,Uf (by rw[Uz];omega)];have:∃x y r,((d :: g).reverse.map (fun q=>M.getD q [])++List.map (fun q=>M.getD q []) [k])=x :: y :: r:=by
    have l:2<=((d :: g).reverse.map (fun q=>M.getD q [])++List.map (fun q=>M.getD q []) [k]).length:=(by simp);generalize ((d :: g).reverse.map (fun q=>M.getD q [])++List.map (fun q=>M.getD q []) [k])=L at l
    match L,l with
    | x :: y :: r,_=>exact⟨x,y,r,rfl⟩
   obtain⟨x,y,r,e⟩:=this;rw[e];rfl
theorem Qs(Y:Sx T S l a A Va ms)(G:0<v.length)(D:∀i (h:i<v.length),Q5 l a i v[i])(b:Xs)(t:Tk)(m:Nat):∀i M K,i+m=v.length->M.length=i->(∀x∈M,Tn T S A Va x)->qz (v.map (kI T S)) i K->(∀k∈K,k<i) ->
  oh T S A (v.map (kI T S)) b t m i M=AD b (jC l Va ms (nz t) (bb T S A) (v.drop i) (M,K.reverse.map (fun q=>M.getD q []))):=by
 induction m with
 | zero =>
  intro i M K h f p d j;rw[VD]at h;rw[oh,h,Wr,jC];rw[h]at d;exact NV G b t d
 | succ m I =>
  intro i M K h f p d j;have n:i<v.length:=by omega
  obtain⟨g,w⟩:=QK Y (kE v i n) (D i n) f p d j;rw[oh,UB n,jC];cases e:((iE T S A (v.map (kI T S)) i M).2==0)
  ·have g:=g e;have u:((jd l Va ms (M,K.reverse.map (fun q=>M.getD q [])) v[i]).1==0)=false:=(by rw[g];exact e);rw[Uf rfl,Ud (by rw[u];simp),g];unfold AD;obtain⟨J,L,N⟩:=Di (T:=T) (S:=S) v[i];rw[Ud (by simp only;rw[e];simp),kE v i n,J,L,N]
  ·obtain⟨z,B,C⟩:=w e;rw[Ud (by simp),z,Uf (by rfl)];simp only;generalize (iE T S A (v.map (kI T S)) i M).1=x at *;have o:qz (v.map (kI T S)) (i+1) (i :: K.drop (aQ (v.map (kI T S)) i).need):=by
    obtain⟨c,r,s,-⟩:=rB (aQ (v.map (kI T S)) i).need i K d C;exact⟨rfl,c,by rw[nO];exact r,s⟩
   have:=I (i+1) (M++[x]) (i :: K.drop (aQ (v.map (kI T S)) i).need) (by omega) (by simp[f]) (fun y H=>by
    rcases UG.1 H with h | h
    ·exact p y h
    ·rw[Uq.1 h];exact B) o (fun k E=>by
    rcases UH.1 E with h | h
    ·omega
    ·have:=j k (WN h);omega)
   rw[this,Xe,UJ];congr 3
   ·congr 1
    ·apply V6;intro q F;exact Ng M x q (by rw[f];exact j q (WN (List.mem_reverse.1 F)))
    ·show [(M++[x]).getD i []]=[x]
     rw[<-f,Nh]
end
def Fc(l:List St)(a:Nat)(L:List jg):Prop:=∀i s,L[i]?=some s->s.Yw=1∨Q5 l a i s
theorem Fc.snoc{s:jg}(h:Fc H w v)(d:s.Yw=1∨Q5 H w v.length s):Fc H w (v++[s]):=fun i x a=>by
 by_cases c:i<v.length
 ·rw[Uv c]at a;exact h i x a
 ·have b:=(Uk.1 a).1;rw[Uh,Wa]at b;have e:i=v.length:=by omega
  subst e;rw[Ur (Ue _),U3]at a;rw[<-Vw a];exact d
theorem Fc.nil:Fc o D []:=fun i s h=>by cases h
theorem xQ(h:jM H y w=some b):Fh H w b:=by
 unfold jM at h;have a:=VP h;unfold mW at a;split at a
 ·next s c =>
  simp only[Bool.and_eq_true,Bool.not_eq_true']at a;exact⟨s,c,a.1.2,a.2⟩
 ·cases a
theorem IU(h:b∈aM H w):Fh H w b:=by
 unfold aM eQ at h;have a:=(UP.1 h).2;unfold nW at a;split at a
 ·next s e =>
  rw[Ux]at a;refine⟨s,e,?_,a.1⟩;have c:=a.2;unfold qP at c;split at c
  ·next d =>
   have:s.Yw=2:=(by simpa using d);rw[this];rfl
  ·have:s.Yw=3:=(by simpa using c);rw[this];rfl
 ·cases a
theorem NL(c:List (Xs×Pl)):∀a,Fc H w a->Fc H w (ee H w t c a).1:=by
 induction c with
 | nil=>intro a h;rw[ee];split;exact Fc.nil H w;exact h
 | cons x r b =>
  intro a h;obtain⟨e,p⟩:=x;rw[ee];split
  ·exact b _ (h.snoc (Us rfl))
  ·split
   ·exact Fc.nil H w
   ·next n d=>exact b _ (h.snoc (Uo (Uo ⟨rfl,xQ d⟩)))
structure Jy(l:List St)(a:Nat)(c:lK):Prop where
 n:∀x∈c.Yz,Fh l a x
 t:∀x∈c.Yp,x<c.steps.length
 s:Fc l a c.steps
 b:c.behind=true->0<c.steps.length
theorem vh(h:w<g.length):g.getD w 0∈g:=by
 rw[Uc,Ub h];exact Uu h
theorem Jy.let{c:lK}(h:Jy H w c)(n:Nat)(p:Pl):Jy H w (bF c n p).2:=by
 have d:∀x,x<c.steps.length->∀s:jg,x<(c.steps++[s]).length:=fun x a s=>by rw[Uh];omega
 unfold bF;split
 ·unfold fn dO;split
  ·next e=>exact⟨h.n,fun x a=>d x (h.t x a) _,h.s.snoc (Uo (Uo ⟨rfl,h.n _ (vh e)⟩)),fun _=>by simp⟩
  ·split
   ·next e=>exact⟨h.n,fun x a=>d x (h.t x a) _,h.s.snoc (Uo (Us ⟨rfl,h.t _ (vh e)⟩)),fun _=>by simp⟩
   ·exact⟨h.n,h.t,h.s,h.b⟩
 ·split
  ·unfold jS;split <;> exact⟨h.n,h.t,h.s,fun h=>by cases h⟩
  ·split
   ·next f =>
    refine⟨h.n,fun x a=>?_,h.s,fun h=>by cases h⟩;rcases UG.1 a with a | a
    ·exact h.t x a
    ·have:=h.b f.2;have:=Uq.1 a;show x<c.steps.length;omega
   ·split
    ·exact⟨h.n,fun x a=>d x (h.t x a) _,h.s.snoc (Us rfl),fun h=>by cases h⟩
    ·exact h
theorem PK(X:List (Nat×Pl)):∀c,Jy H w c->Jy H w (BE X c).2:=by
 induction X with
 | nil=>intro c h;exact h
 | cons x r a =>
  intro c h;rw[BE];split
  ·exact a _ (h.let _ _)
  ·exact h.let _ _
theorem JP(c:List (Xs×Pl)):∀i b,(∀x∈b,Fh H w x)->∀x∈(b8 H w t i c b).2,Fh H w x:=by
 induction c with
 | nil=>intro i b h;exact h
 | cons y r e =>
  intro i b h;obtain⟨f,p⟩:=y;rw[b8];split
  ·exact h
  ·split
   ·exact h
   ·next n d =>
    split
    ·exact h
    ·refine e _ _ (fun x a=>?_);rcases UG.1 a with a | a
     ·exact h x a
     ·rw[Uq.1 a];exact xQ d
theorem oD:Fc o I (bW o I u).1:=by
 unfold bW;split
 ·unfold lu nP Ab;split
  ·split
   ·split
    ·exact Fc.nil o I
    ·have b:Jy o I ⟨(b8 o I u.YA 1 (u.Yn.drop 1) (aM o I)).2,[],[],0,false⟩:=⟨JP _ _ _ _ (fun x a=>IU a),(fun x a=>by cases a),Fc.nil o I,fun h=>by cases h⟩
     unfold CP;split
     ·rw[Bb];exact(PK _ _ b).s
     ·exact b.s
   ·exact Fc.nil o I
  ·exact Fc.nil o I
 ·exact NL _ _ _ (Fc.nil o I)
theorem FI{p q:Nat->Bool}(h:∀i,i<w->p i=q i):(List.range w).find? p=(List.range w).find? q:=by
 have:∀L:Xv,(∀i∈L,p i=q i)->L.find? p=L.find? q:=by
  intro L
  induction L with
  | nil=>intro _;rfl
  | cons x r b =>
   intro h;rw[Xz,Xz,h x UN,b (fun i a=>h i (UM _ a))]
 exact this _ (fun i a=>h i (Up.1 a))
theorem Nk:ik (M.map (kI L x))=match pD M with | some i=>(i:Int) | none=>-1:=by
 unfold ik pD;rw[Uy];have e:(List.range M.length).find? (wG (M.map (kI L x)))=(List.range M.length).find? (fun i=>match M[i]? with | some s=>s.Yw==1 | none=>false):=by
  apply FI;intro i a;unfold wG;rw[kE M i a,Ub a];simp only;unfold kI;split
  ·next h=>rw[h];rfl
  ·next h =>
   have:(M[i].Yw==1)=false:=Uz.2 h;rw[this];split
   ·simp only;rw[Uz];omega
   ·rfl
 rw[e];cases (List.range M.length).find? (fun i=>match M[i]? with | some s=>s.Yw==1 | none=>false) <;> rfl
def OL(r:Rw):iH:=⟨r.Yx,r.Yi,r.why,r.at_.YB,r.at_.YC,r.at_.YD⟩
def ni(r:Rw):Rw:=if r.Yi=5 then { r with Yi:=4 } else r
theorem Fy(R:pJ×lK):((nP t R).2.1==0)=true->0<(nP t R).1.length:=by
 unfold nP;split
 ·split
  ·split
   ·intro h;cases h
   ·intro _;show 0<R.2.steps.length;omega
  ·intro h;cases h
 ·next a=>intro h;exact absurd h a
theorem Gk(b:List (Xs×Pl)):∀a,((ee o I t b a).2.1==0)=true->0<(ee o I t b a).1.length:=by
 induction b with
 | nil =>
  intro a;rw[ee];split
  ·intro h;cases h
  ·intro _;show 0<a.length;omega
 | cons x r c =>
  intro a;obtain⟨d,p⟩:=x;rw[ee];split
  ·exact c _
  ·split
   ·intro h;cases h
   ·exact c _
theorem AA:((bW o I u).2.1==0)=true->0<(bW o I u).1.length:=by
 unfold bW;split
 ·exact Fy _ _
 ·exact Gk _ _ _ _ _
theorem Hb(Y:Sx k n H w b (rV H w) (gI H w (rV H w))){t:Tk}(E:i.Yx=bD k (aq n b))(B:i.YA=nz t)(A:i.Yc=bb k n b)(L:List Rw) :
  lI k n b (rs k n (bW H w i)) t=OL (ni (cQ H w i L)):=by
 have v:=oD H w i;have s:=AA H w i;unfold lI cQ;have y:(rs k n (bW H w i)).st=(bW H w i).1.map (kI k n):=rfl;have z:(rs k n (bW H w i)).why=(bW H w i).2.1:=rfl;have l:(rs k n (bW H w i)).YB=(bW H w i).2.2.YB/\(rs k n (bW H w i)).YC=(bW H w i).2.2.YC/\(rs k n (bW H w i)).YD=(bW H w i).2.2.YD:=⟨rfl,rfl,rfl⟩;rw[y,z,l.1,l.2.1,l.2.2,Nk,<-E];generalize bW H w i=q at *;obtain⟨a,f⟩:=q;simp only at v s ⊢;cases j:(f.1==0)
 ·rw[Uf rfl,Ud (by simp)];unfold kg;rw[Ud (by rw[j];simp)];rfl
 ·rw[Ud (by simp)];have o:f.1=0:=by simpa using j
  cases c:pD a with
  | some u =>
   have e:u<a.length:=by
    unfold pD at c;exact Up.1 (UV c)
   simp only;rw[Uf (by omega),UR,kE a u e,Ud (by simp)];obtain⟨G,I,J⟩:=Di (T:=k) (S:=n) a[u];unfold kg;rw[Uf j,c];simp only;rw[Ub e,G,I,J,o];rfl
  | none =>
   simp only;rw[Ud (by omega),Uf (by simp),Uy];have r:=s j;have p:∀d (h:d<a.length),Q5 H w d a[d]:=fun d h=>by
    rcases v d a[d] (Ub h) with m | m
    ·unfold pD at c;rw[U8]at c;have:=c d (Up.2 h);rw[Ub h]at this;simp only at this;rw[m]at this;exact absurd rfl this
    ·exact m
   have:=Qs Y r p i.Yx t a.length 0 [] [] (by omega) rfl (fun x F=>by cases F) rfl (fun K D=>by cases D);rw[this,VK];unfold eF;rw[B,A];show AD i.Yx (jC H (rV H w) (gI H w (rV H w)) (nz t) (bb k n b) a ([],[]))=_;generalize jC H (rV H w) (gI H w (rV H w)) (nz t) (bb k n b) a ([],[])=g;unfold AD kg;cases C:(g.1==0)
   ·rw[Ud (by simp),Ud (by simp)];rfl
   ·rw[Uf rfl,Uf rfl,c];simp only;split <;> rfl
theorem JE(c:w<=b)(h:aO x w b=true)(m:Nat):b+m<=x.length->aO x b (b+m)=true->aO x w (b+m)=true:=by
 induction m with
 | zero=>intro _ _;exact h
 | succ m d =>
  intro f a;have e:=Bg x w b c (by omega) h b c (Ue _);rw[<-WC,oY x b (b+m) (by omega) (by omega),Ux]at a;rw[<-WC,oY x w (b+m) (by omega) (by omega),d (by omega) a.1];have:=XO a.2;simp only[Bool.true_and,decide_eq_true_eq];omega
theorem Fo{n:Nat}(c:w<=b)(e:b<=n)(d:n<=x.length)(h:aO x w b=true)(a:aO x b n=true):aO x w n=true:=by
 obtain⟨m,rfl⟩:∃m,n=b+m:=⟨n-b,by omega⟩
 exact JE x c h m d a
section
variable {T:List Tk} {S:List Sm} {f:Nat}
theorem OB(P:tG T S w)(d:b<(bA T (aq S w).h).length):(if(((aq S w).k.toList == [36,99])||((aq S w).k.toList == [36,118]))=true then kl T S (bA T (aq S w).h)[b] w ((aq S w).k.toList == [36,99]) (eJ T (aq S w).h ((aq S w).h+b)) else ir T S (aq S w).k (bA T (aq S w).h)[b] w (eJ T (aq S w).h ((aq S w).h+b)))=0/\(eJ T (aq S w).h ((aq S w).h+b)).length=b:=by
 have C:=P.zt;have v:=P.pos;have e:=P.le;have c:=qF T (aq S w).h b d;rw[Uc,Ub d]at c;have c:(bA T (aq S w).h)[b]=tS T ((aq S w).h+b):=c;have i:=uG P;have B:(bA T (aq S w).h).length<=(aq S w).z-1-(aq S w).h:=by
  rw[i,<-nN T (aq S w).h ((aq S w).z-1) e (by omega)];exact(List.takeWhile_sublist _).length_le
 have j:∀y∈bA T (aq S w).h,(y.toList == [36,61])=false:=fun y n=>by
  rw[i]at n;have:=List.all_takeWhile (p:=jE) (l:=eJ T (aq S w).h ((aq S w).z-1));rw[U5]at this;have:=this y n;unfold jE at this;simpa using this
 obtain⟨u,t⟩:=P.w ((aq S w).h+b) (by omega) (by omega);have s:aJ (eJ T (aq S w).h ((aq S w).h+b)) ⟨#[36,61]⟩=false:=by
  cases r:aJ (eJ T (aq S w).h ((aq S w).h+b)) ⟨#[36,61]⟩
  ·rfl
  ·obtain⟨q,x,A,o⟩:=wM (by omega) (by omega) r;have a:q-(aq S w).h<(bA T (aq S w).h).length:=(by omega);have f:=qF T (aq S w).h (q-(aq S w).h) a;rw[Uc,Ub a,show(aq S w).h+(q-(aq S w).h)=q by omega,o]at f;have g:=j _ (Uu a);rw[show(bA T (aq S w).h)[q-(aq S w).h]=(⟨#[36,61]⟩:Xs) from f]at g;exact absurd g (by decide +kernel)
 have m:=uw u t (by rw[<-c];exact j _ (Uu d)) s;rw[<-c]at m;exact⟨m,by rw[nN T _ _ (by omega) (by omega)];omega⟩
theorem zc(P:tG T S w)(c:(aA (aq S w).k||((aq S w).k.toList == [36,101]))=true)(l:y∈bA T (aq S w).h):eO T S y w=true∨∃m,m<w/\rZ T S y w m=true:=by
 obtain⟨i,j,e⟩:=U7 l;obtain⟨a,-⟩:=OB P j;rw[e]at a;have b:(((aq S w).k.toList == [36,99])||((aq S w).k.toList == [36,118]))=false/\((aq S w).k.toList == [36,100])=false/\((aq S w).k.toList == [36,102])=false:=by
  unfold aA at c;simp only[Bool.or_eq_true]at c;rcases c with (h | h) | h <;> (rw[cD h,cD h,cD h,cD h];decide)
 rw[b.1,Ud (by simp)]at a;unfold ir at a;rw[b.2.1,b.2.2,Ud (by simp)]at a;cases g:eO T S y w
 ·right
  rw[g]at a;split at a
  ·simp at a
  ·rw[Ud (by simp),Ud (by simp)]at a;split at a
   ·cases a
   ·split at a
    ·cases a
    ·next d =>
     unfold gG at d;split at d
     ·next m f=>exact⟨m,Up.1 (UV f),VP f⟩
     ·omega
 ·exact Us rfl
theorem SO(P:tG T S w)(a:((aq S w).k.toList == [36,102])=true):(bA T (aq S w).h).length<=2:=by
 by_cases h:2<(bA T (aq S w).h).length
 ·obtain⟨b,c⟩:=OB P h;rw[cD a,cD a,Ud (by decide)]at b;unfold ir at b;rw[c,a,cD a,Ud (by decide),Ud (by decide),Uf rfl,Uf (by decide)]at b;cases b
 ·omega
theorem IZ(h:mU T S y w=true):(aA (aq S w).k||aG (aq S w).k)=true/\bD T (aq S w)=y:=by
 unfold mU at h;rw[Ux]at h;refine⟨?_,uU (by simpa using h.2)⟩;cases e:(aA (aq S w).k||aG (aq S w).k)
 ·have:bD T (aq S w)=⟨#[]⟩:=by unfold bD;rw[Ud (by rw[e];simp)]
  rw[this,US]at h;simp at h
 ·rfl
theorem ND(p:CU T T.length S f)(k:∀q,q<T.length->aY T S q=0)(x:b<S.length)(r:w<b)(C:mU T S y w=true)(D:mU T S y b=true):False:=by
 obtain⟨P,F⟩:=p.s b x;obtain⟨d,n⟩:=IZ D;have t:=P.lt;have g:=CK p b x (aq S b).a (Ue _) t;rw[Uf rfl,k _ (by omega)]at g;have u:tS T (aq S b).a=y:=by
  unfold bD at n;rw[Uf d]at n;exact n
 rw[u]at g;have v:=P.k;unfold eu at v;by_cases o:(io (tS T (aq S b).a) ⟨#[36]⟩||decide (T.length<=(aq S b).a+1))=true
 ·rw[Uf o]at v;have z:(aq S b).k=y:=by rw[<-u];exact congrArg Prod.fst v
  rw[z]at d;unfold dE at g;have j:((y.toList == [36,123])||((y.toList == [36,118])||(y.toList == [36,100])))=false/\(y.toList == [36,125])=false/\(y.toList == [36,99])=false:=by
   unfold aA aG at d;simp only[Bool.or_eq_true]at d;rcases d with (h | h) | (h | h) <;> (rw[cD h,cD h,cD h,cD h,cD h];decide)
  rw[j.1,j.2.1,j.2.2,d,Ud (by simp),Ud (by simp),Ud (by simp),Ud (by simp),Ud (by simp),Uf rfl]at g;cases g
 ·have i:io y ⟨#[36]⟩=false:=by
   rw[<-u];cases e:io (tS T (aq S b).a) ⟨#[36]⟩
   ·rfl
   ·rw[e]at o;exact absurd rfl o
  have c:∀l:List UInt8,l=[36,123]∨l=[36,118]∨l=[36,100]∨l=[36,125]∨l=[36,99]∨l=[36,97]∨l=[36,112]∨l=[36,102]∨l=[36,101]->(y.toList==l)=false:=fun l n=>by
   cases e:(y.toList==l)
   ·rfl
   ·have B:(⟨⟨l⟩⟩:Xs).toList=l:=(by rw[US]);have A:y=⟨⟨l⟩⟩:=uU (by rw[B];simpa using e);rw[A]at i;rcases n with rfl | rfl | rfl | rfl | rfl | rfl | rfl | rfl | rfl <;> exact absurd i (by decide +kernel)
  unfold dE aA aG at g;rw[c [36,123] (by simp),c [36,118] (by simp),c [36,100] (by simp),c [36,125] (by simp),c [36,99] (by simp),c [36,97] (by simp),c [36,112] (by simp),c [36,102] (by simp),c [36,101] (by simp),i]at g;simp only[Bool.or_self,Bool.false_and,Bool.false_eq_true,if_false]at g;split at g
  ·cases g
  ·split at g
   ·cases g
   ·next E =>
    apply E;unfold jT;have:0<=bB T S y b:=by
     unfold bB;cases e:(List.range b).find? (mU T S y) with
     | none =>
      rw[U8]at e;exact absurd C (e w (Up.2 r))
     | some m=>show(0:Int)<=(m:Int);omega
    rw[Vy this];rfl
end
theorem Gw(c:Xs):c∈bI L x m D ↔ ∃i,i<D/\sx x m i=true/\c=(bb L x (m.getD i 0)).getD 1 ⟨#[]⟩:=by
 unfold bI ta;rw[Vf];constructor
 ·rintro ⟨i,d,rfl⟩;obtain⟨a,b⟩:=UP.1 d;exact⟨i,Up.1 a,b,rfl⟩
 ·rintro ⟨i,a,b,rfl⟩;exact⟨i,UP.2 ⟨Up.2 a,b⟩,rfl⟩
theorem N7(h:∀j∈m,((aq x j).k.toList == [36,102])=true->(bb L x j).getD 1 ⟨#[]⟩=tS L ((aq x j).h+1)):∀k,k<=m.length->fV L x m k=bI L x m k:=by
 intro k
 induction k with
 | zero=>intro _;rfl
 | succ k b =>
  intro c;have a:k<m.length:=by omega
  rw[qT,<-b (by omega)];unfold fV sx;rw[UY a,Vi,UJ,Uc,Ub a];congr 1;show _=if((aq x m[k]).k.toList == [36,102])=true then [(bb L x m[k]).getD 1 ⟨#[]⟩] else [];split
  ·next e=>rw[XX,Uf e,Xy,h _ (Uu a) e];rfl
  ·next e=>rw[XX,Ud e,Xy];rfl
theorem NT(h:N.Pairwise (fun x y=>x≠y)):JB N:=by
 intro i j a b;rw[Wn]at h;have:=h i j (by omega) b a;rw[Uc,Uc,Ub (show i<N.length by omega),Ub b,Uz];exact fun e=>this (uU e)
theorem Kk(d:w<(a9 L x D).length)(f:b<(a9 L x D).length)(h:(a9 L x D)[b]<(a9 L x D)[w]):b<w:=by
 have a:(a9 L x D).Pairwise (· < ·):=Xw _ Wy;rw[Wn]at a;by_cases e:b<w
 ·exact e
 ·by_cases c:b=w
  ·subst c;omega
  ·have:=a w b d f (by omega);omega
theorem MC:y∈rV H w ↔ ∃n s,H[n]?=some s/\(s.Yw==2)=true/\fH H n w=true/\y=aL s:=by
 unfold rV qx;rw[Wk];constructor
 ·rintro ⟨n,d,e⟩;unfold vT at e;split at e
  ·next s a =>
   split at e
   ·next h=>exact⟨n,s,a,h.1,h.2,(Vw e).symm⟩
   ·cases e
  ·cases e
 ·rintro ⟨n,s,a,b,c,rfl⟩;refine⟨n,Up.2 (Uk.1 a).1,?_⟩;unfold vT;rw[a];simp only;rw[Uf ⟨b,c⟩]
section
variable {T:List Tk} {d:Db}
theorem gw.inj(R:gw T d)(a:w<d.Yt.length)(c:b<d.Yt.length)(h:av (aa T) w=av (aa T) b):w=b:=by
 have f:=R.hel.len;rcases Xf w b with e | e | e
 ·have:=gQ (S:=aa T) e (by omega);omega
 ·exact e
 ·have:=gQ (S:=aa T) e (by omega);omega
theorem gw.ltOf(R:gw T d)(c:w<d.Yt.length)(h:av (aa T) w<av (aa T) b):w<b:=by
 have a:=R.hel.len;rcases Xf w b with e | e | e
 ·exact e
 ·rw[e]at h;omega
 ·have:=gQ (S:=aa T) e (by omega);omega
theorem gw.rcOf(R:gw T d){j:Nat}(b:j<(aa T).length)(h:lM (aa T) j=true):∃n,n<d.Yt.length/\av (aa T) n=j:=by
 have a:j∈lO (aa T):=UP.2 ⟨Up.2 b,h⟩;rw[uv]at a;obtain⟨n,c,e⟩:=Vf.1 a;exact⟨n,by rw[R.hel.len];exact Up.1 c,e⟩
theorem gw.sget(R:gw T d)(e:d.Yt[w]?=some i):fw (aq (aa T) (av (aa T) w)).k.toList i.Yw/\i.Yx=bD T (aq (aa T) (av (aa T) w))/\i.Yc=bb T (aa T) (av (aa T) w):=by
 obtain⟨a,b,c,-⟩:=R.ct w i e;exact⟨a,b,c⟩
theorem gw.use(R:gw T d)(t:∀q,q<T.length->aY T (aa T) q=0)(G:∀(n:Nat) (s:St),d.Yt[n]?=some s->ph s.Yw=true->s.til=0)(A:w<d.Yt.length)(x:Xs)(I:(x.toList == [])=false):SL T (aa T) d.Yt w (av (aa T) w) x:=by
 have K:=R.hel.at_ A;have p:=dN T;have i:∀{n:Nat} {s:St},d.Yt[n]?=some s->n<d.Yt.length->(s.Yw==1)=false->s.Yx=x->mU T (aa T) x (av (aa T) n)=true:=fun {n s} c l H C=>by
  obtain⟨r,y,-⟩:=R.sget c;unfold mU;rw[<-y,C,I];simp
 unfold SL;cases u:jM d.Yt x w with
 | some n =>
  right
  obtain⟨s,c,H,o⟩:=xQ u;have l:=(Uk.1 c).1;have v:s.Yx=x:=by
   have:=VP u;unfold mW at this;rw[c]at this;simp only[Bool.and_eq_true]at this;exact uU (by simpa using this.1.1)
  have z:=i c l H v;obtain⟨r,y,-⟩:=R.sget c;have m:n<w:=by
   unfold fH at o;rw[c]at o;simp only[Bool.and_eq_true,decide_eq_true_eq]at o;exact o.1
  have E:=gQ (S:=aa T) m (by rw[<-R.hel.len];exact A);have D:bB T (aa T) x (av (aa T) w)=(av (aa T) n:Nat):=by
   apply ui E z;intro j B;cases e:mU T (aa T) x j
   ·rfl
   ·exact(ND p t (by omega) B e z).elim
  refine⟨n,rfl,l,?_⟩;unfold dY;rw[D,Ud (by omega),UR,Uf];cases b:ph s.Yw
  ·rw[R.held c b A,Ux]at o;rw[o.2,X0]
  ·have:aA (aq (aa T) (av (aa T) n)).k=true:=by
    unfold aA;rw[<-(cn r).2.2.2];exact b
   rw[this,Wh]
 | none =>
  left
  refine⟨rfl,?_⟩;unfold dY;split
  ·omega
  ·next g =>
   rw[Ud]
   ·omega
   ·intro f;unfold bB at g f;cases e:(List.range (av (aa T) w)).find? (mU T (aa T) x) with
    | none=>rw[e]at g;exact g (by simp)
    | some j =>
     rw[e]at f;simp only[Int.toNat_natCast]at f;have B:=Up.1 (UV e);have z:=VP e;obtain⟨a,C⟩:=IZ z
     obtain⟨n,l,F⟩:=R.rcOf (j:=j) (by omega) (by
      unfold lM;unfold aA aG at a;simp only[Bool.or_eq_true]at a ⊢;rcases a with (h | h) | (h | h)
      ·exact Us (Uo h)
      ·exact Uo h
      ·exact Us (Us (Us (Uo h)))
      ·exact Us (Us (Uo h)))
     subst F;obtain⟨s,c,r,y,J⟩:=R.get l;have m:=R.ltOf l B;unfold jM at u;rw[U8]at u;apply u n (Up.2 l);unfold mW;rw[c];simp only[Bool.and_eq_true];refine⟨⟨by rw[y,C];simp,?_⟩,?_⟩
     ·rw[(cn r).2.2.1];unfold aA aG at a;simp only[Bool.or_eq_true]at a;rcases a with (h | h) | (h | h) <;> (rw[cD h];decide)
     ·cases b:ph s.Yw
      ·rw[R.held c b A,Vy B];have:aA (aq (aa T) (av (aa T) n)).k=false:=by
        unfold aA;rw[<-(cn r).2.2.2];exact b
       rw[this,Vn]at f;rw[f];rfl
      ·unfold fH;rw[c];simp only;rw[G n s c b,Vy m];rfl
theorem gw.apAll(R:gw T d)(f:w<d.Yt.length)(h:JB N)(i j:Nat)(a:i<N.length)(b:j<N.length):fK N.length (gI d.Yt w N) i j=eB T (aa T) (N.getD i ⟨#[]⟩) (N.getD j ⟨#[]⟩) (av (aa T) w):=by
 have c:∀x y,eB T (aa T) x y (av (aa T) w)=eB T (aa T) y x (av (aa T) w):=fun x y=>by
  unfold eB;congr 1
  funext j
  unfold Q8;have e:(x.toList==y.toList)=(y.toList==x.toList):=by rw[Vo,Vt,Vt];exact⟨Eq.symm,Eq.symm⟩
  rw[e];cases aJ (bA T (aq (aa T) j).h) x <;> cases aJ (bA T (aq (aa T) j).h) y <;> rfl
 rw[JG _ _ _ _ _ a b];rcases Xf i j with e | e | e
 ·rw[R.tog f h a b e,Uz.2 (by omega)];rfl
 ·subst e;rw[Xm];unfold eB
  symm
  rw[XU,Wl];apply uT;intro j _;unfold Q8;rw[Xm];simp
 ·rw[c,<-R.tog f h b a e,Uz.2 (by omega)];have:zi d.Yt w N d.Yt.length i j=zi d.Yt w N d.Yt.length j i:=by
   unfold zi;congr 1
   funext n
   rw[Xb,Xb,XS ((bN N (Go.Proofs.YtnbhnocdhbcbcaaGreat.symsAt d.Yt n)).contains i)]
  rw[this];rfl
theorem gw.fvar(R:gw T d)(j:SD T (aa T))(f:d.Yt[w]?=some i)(c:(i.Yw==2)=true):aL i=tS T ((aq (aa T) (av (aa T) w)).h+1)/\((aq (aa T) (av (aa T) w)).k.toList == [36,102])=true/\(bb T (aa T) (av (aa T) w)).getD 1 ⟨#[]⟩=tS T ((aq (aa T) (av (aa T) w)).h+1):=by
 have m:=(Uk.1 f).1;obtain⟨l,-,b⟩:=R.sget f;have e:((aq (aa T) (av (aa T) w)).k.toList == [36,102])=true:=by rw[<-(cn l).2.1];exact c
 obtain⟨g,a⟩:=j _ (R.hel.at_ m) e;refine⟨?_,e,a⟩;unfold aL;rw[Uf ⟨c,by rw[b];exact g⟩,b];exact a
theorem gw.avOf(R:gw T d)(l:SD T (aa T))(j:w<d.Yt.length)(m:b<av (aa T) w)(c:((aq (aa T) b).k.toList == [36,102])=true)(a:aO (aa T) b (av (aa T) w)=true):tS T ((aq (aa T) b).h+1)∈rV d.Yt w:=by
 have p:=R.hel.at_ j;obtain⟨n,o,rfl⟩:=R.rcOf (j:=b) (by omega) (by unfold lM;rw[c];simp);obtain⟨s,f,i,-,-⟩:=R.get o;have g:(s.Yw==2)=true:=by rw[(cn i).2.1];exact c
 have e:ph s.Yw=false:=by rw[(cn i).2.2.2,cD c,cD c];decide
 rw[MC];exact⟨n,s,f,g,by rw[R.held f e j,Vy m,a];rfl,(R.fvar l f g).1.symm⟩
end
theorem sg.avd{d:Db}(F:sg d):JB (rV d.Yt w):=by
 apply NT;unfold rV qx;rw[List.pairwise_filterMap];refine List.pairwise_lt_range.imp_of_mem (fun {n m} hn hm hnm=>?_);intro x a y b;unfold vT at a b;split at a
 ·next s g =>
  split at a
  ·next l =>
   split at b
   ·next u i =>
    split at b
    ·next o =>
     have j:s.Yw=2:=(by simpa using l.1);have k:u.Yw=2:=(by simpa using o.1);have r:s.til=0∨m<s.til:=by
      have c:=l.2;have f:=o.2;unfold fH at c f;rw[g]at c;rw[i]at f;simp only[Bool.and_eq_true,Bool.or_eq_true,decide_eq_true_eq,beq_iff_eq]at c f;rcases c.2 with h | h
      ·exact Us h
      ·exact Uo (by omega)
     have:=F.ds n m s u g i j k hnm r;have p:aL s=vr s:=(by unfold aL vr;rw[Uf ⟨by rw[j];rfl,F.fl n s g j⟩]);have q:aL u=vr u:=(by unfold aL vr;rw[Uf ⟨by rw[k];rfl,F.fl m u i k⟩]);have a:aL s=x:=Vw a;have b:aL u=y:=Vw b;rw[<-a,<-b,p,q];intro e;rw[e]at this;simp at this
    ·cases b
   ·cases b
  ·cases a
 ·cases a
theorem OS(d:w<=b)(f:b<=n.length)(h:iI k n y w=true)(c:aO n w b=true):iI k n y b=true:=by
 unfold iI jL at h ⊢;obtain⟨m,a,e⟩:=UW.1 h;have a:=Up.1 a;unfold o8 at e;simp only[Bool.and_eq_true,Bool.or_eq_true,Bool.not_true,Bool.false_eq_true,or_false]at e;refine nh m (by omega) ?_;unfold o8;rw[e.1,e.2.1,Fo n (by omega) d f e.2.2 c];rfl
theorem Nn(d:b<w)(c:((aq n b).k.toList == [36,102])=true)(a:aO n b w=true)(e:tS k ((aq n b).h+1)∈uK k n w):b∈a9 k n w:=by
 refine UP.2 ⟨Up.2 d,?_⟩;unfold ub;rw[a,c,(IS _ _).2 e];simp
theorem No(h:b∈a9 k n w):∃a,∃(c:a<(a9 k n w).length),(a9 k n w)[a]=b/\(a9 k n w).getD a 0=b:=by
 obtain⟨a,c,e⟩:=U7 h;exact⟨a,c,e,by rw[Uc,Ub c];exact e⟩
theorem FL(h:rZ k n y w b=true):((aq n b).k.toList == [36,102])=true/\tS k ((aq n b).h+1)=y/\aO n b w=true:=by
 unfold rZ at h;simp only[Bool.and_eq_true]at h;exact⟨h.1,(xp _ _).1 h.2.1,h.2.2⟩
theorem qJ(h:b∈aM H w):∃s,H[b]?=some s/\((s.Yw==2)=true∨(s.Yw==3)=true)/\fH H b w=true:=by
 unfold aM eQ at h;have a:=(UP.1 h).2;unfold nW at a;split at a
 ·next s e =>
  rw[Ux]at a;refine⟨s,e,?_,a.1⟩;have c:=a.2;unfold qP at c;split at c
  ·next d=>exact Us d
  ·exact Uo c
 ·cases a
section
variable {T:List Tk} {d:Db}
theorem gw.rcIs(R:gw T d)(a:w<d.Yt.length):lM (aa T) (av (aa T) w)=true:=by
 have h:av (aa T) w∈lO (aa T):=by
  unfold av;rw[Uc,Ub (by rw[<-R.hel.len];exact a)];exact Uu _
 exact(UP.1 h).2
theorem gw.hyE(R:gw T d)(F:sg d)(f:∀q,q<T.length->aY T (aa T) q=0)(K:w<d.Yt.length):Ts T (aa T) d.Yt (aM d.Yt w):=by
 have E:=R.flo F;have p:=dN T;have G:=R.hyps E K;have hN:=R.hel.at_ K;have b:∀i,i<(aM d.Yt w).length->((aM d.Yt w).map (av (aa T))).getD i 0=av (aa T) ((aM d.Yt w).getD i 0):=fun i a=>by
  rw[Uc,UL,Uc,Ub a];rfl
 have g:∀i,i<(aM d.Yt w).length->(aM d.Yt w).getD i 0∈aM d.Yt w:=fun i a=>vh a;have D:∀{m:Nat} {s:St},d.Yt[m]?=some s->d.Yt.getD m zN=s:=fun {m s} h=>by rw[Uc,h];rfl
 refine⟨fun i a=>?_,fun i a=>?_,fun i a n=>?_,fun i a n x N S=>?_⟩
 ·obtain⟨s,c,j,-⟩:=qJ (g i a);obtain⟨o,-,-⟩:=R.sget c;unfold sx;rw[b i a,D c,<-(cn o).2.1];rcases j with h | h
  ·rw[h];have:s.Yw=2:=by simpa using h
   rw[this];rfl
  ·rw[h];have:s.Yw=3:=by simpa using h
   rw[this];rfl
 ·obtain⟨s,c,j,-⟩:=qJ (g i a);obtain⟨-,-,X⟩:=R.sget c;rw[b i a,D c,X]
 ·obtain⟨s,c,j,-⟩:=qJ (g i a);obtain⟨o,-,-⟩:=R.sget c;unfold sx at n;rw[b i a]at n ⊢;rw[<-(cn o).2.1]at n;obtain⟨r,-,B⟩:=R.fvar E c n;rw[D c,r,B]
 ·obtain⟨s,c,j,A⟩:=qJ (g i a);obtain⟨o,-,-⟩:=R.sget c;have Z:=(Uk.1 c).1;unfold sx at n;rw[b i a]at n N;have t:((aq (aa T) (av (aa T) ((aM d.Yt w).getD i 0))).k.toList == [36,101])=true:=by
   rw[<-(cn o).1];rcases j with h | h
   ·rw[(cn o).2.1,n]at h;cases h
   ·exact h
  have C:ph s.Yw=false:=by rw[(cn o).2.2.2,cD t,cD t];decide
  rw[R.held c C K,Ux,Vh]at A;have W:=R.hel.at_ Z;have P:=lG p f _ W (fO t (by decide));rw[Gw]at S;rcases zc P (by rw[t];simp) N with H | ⟨m,J,Y⟩
  ·exfalso
   obtain⟨k,j,l,rfl⟩:=S;unfold sx at l;rw[b k j]at l H;obtain⟨u,L,-,-⟩:=qJ (g k j);have M:=R.hel.at_ (Uk.1 L).1;obtain⟨v1,v2⟩:=M4 (lG p f _ M (fO l (by decide))) l;have e:(bb T (aa T) (av (aa T) ((aM d.Yt w).getD k 0))).getD 1 ⟨#[]⟩=tS T ((aq (aa T) (av (aa T) ((aM d.Yt w).getD k 0))).h+1):=v2;rw[e]at H;exact mL p f (by omega) (by omega) H v1
  ·obtain⟨r,Q,B⟩:=FL Y;have v:=Fo (aa T) (by omega) (by omega) (by omega) B A.2;have L:tS T ((aq (aa T) m).h+1)∈uK T (aa T) (av (aa T) w):=by
    rw[Q];unfold uK kQ;refine UG.2 (Uo (Wi.2 ⟨_,UP.2 ⟨Up.2 A.1,?_⟩,N⟩));unfold zn;rw[t,A.2];rfl
   have z:=Nn (by omega) r v L;obtain⟨k,j,U,O⟩:=No z;have y:i<(a9 T (aa T) (av (aa T) w)).length:=(by rw[<-G,Uy];exact a);have V:(a9 T (aa T) (av (aa T) w))[i]=av (aa T) ((aM d.Yt w).getD i 0):=by
    have:=b i a;rw[G,Uc,Ub y]at this;exact this
   have I:=Kk T (aa T) (av (aa T) w) y j (by rw[U,V];exact J);rw[G,Gw];refine⟨k,I,by unfold sx;rw[O];exact r,?_⟩;rw[O,<-Q];exact(E m (by omega) r).2.symm
theorem gw.py(R:gw T d)(F:sg d)(c:∀q,q<T.length->aY T (aa T) q=0)(D:w<d.Yt.length):Sx T (aa T) d.Yt w (av (aa T) w) (rV d.Yt w) (gI d.Yt w (rV d.Yt w)):=by
 have C:=R.flo F;have p:=dN T;have hA:=R.hel.at_ D;have hD:∀{m:Nat} {s:St},d.Yt[m]?=some s->d.Yt.getD m zN=s:=fun {m s} h=>by rw[Uc,h];rfl
 have f:∀{m:Nat} {s:St},d.Yt[m]?=some s->nt d.Yt m=ph s.Yw/\ph s.Yw=aA (aq (aa T) (av (aa T) m)).k:=fun {m s} h=>by
  obtain⟨V,-,-⟩:=R.sget h;refine⟨by unfold nt;rw[h],?_⟩;rw[(cn V).2.2.2];rfl
 have K:∀n,n<d.Yt.length->JB (zH T (aa T) (av (aa T) n))/\fV T (aa T) (a9 T (aa T) (av (aa T) n)) (a9 T (aa T) (av (aa T) n)).length=zH T (aa T) (av (aa T) n):=fun n a=>by
  have hN:=R.hel.at_ a;have e:fV T (aa T) (a9 T (aa T) (av (aa T) n)) (a9 T (aa T) (av (aa T) n)).length=zH T (aa T) (av (aa T) n):=N7 T (aa T) _ (fun j Y t=>(C j (by have:=qK T (aa T) _ j Y;omega) t).2) _ (Ue _);refine⟨?_,e⟩;rw[<-e,<-R.vars C a];exact F.vsd
 have l:∀{n:Nat},Fh d.Yt w n->∃s,d.Yt[n]?=some s/\n<d.Yt.length/\av (aa T) n<av (aa T) w/\(aA (aq (aa T) (av (aa T) n)).k||aG (aq (aa T) (av (aa T) n)).k)=true/\(ph s.Yw=false->aO (aa T) (av (aa T) n) (av (aa T) w)=true):=fun {n} h=>by
  obtain⟨s,g,t,z⟩:=h;have a:=(Uk.1 g).1;have Z:n<w:=by
   unfold fH at z;rw[g]at z;simp only[Bool.and_eq_true,decide_eq_true_eq]at z;exact z.1
  refine⟨s,g,a,gQ Z (by rw[<-R.hel.len];exact D),?_,fun B=>?_⟩
  ·have M:=R.rcIs a;obtain⟨V,-,-⟩:=R.sget g;rw[(cn V).2.2.1]at t;unfold lM at M;rw[t]at M;unfold aA aG;simp only[Bool.or_eq_true,Bool.false_or]at M ⊢;rcases M with ((h | h) | h) | h
   ·exact Uo (Us h)
   ·exact Uo (Uo h)
   ·exact Us (Us h)
   ·exact Us (Uo h)
  ·rw[R.held g B D,Ux]at z;exact z.2
 have u:∀{k:Xs},(aA k||aG k)=true->cd k=false:=fun {k} t=>by
  unfold aA aG at t;simp only[Bool.or_eq_true]at t;rcases t with (h | h) | (h | h) <;> exact fO h (by decide)
 refine⟨R.apAll D F.avd,fun x hx=>?_,fun n a=>?_,fun n a=>?_,fun n a _=>⟨R.hyE F c a,R.hyps C a⟩,fun n a _=>K n a,fun n a _ i j O Y=>R.apAll a (K n a).1 i j O Y,fun n a=>?_,fun n a o y E hv=>?_,fun n a o=>⟨fun y E=>?_,?_⟩⟩
 ·obtain⟨n,s,g,t,z,rfl⟩:=MC.1 hx;have a:=(Uk.1 g).1;obtain⟨f1,f2,-⟩:=R.fvar C g t;have B:ph s.Yw=false:=by rw[show s.Yw=2 by simpa using t];rfl
  rw[R.held g B D,Ux,Vh]at z;rw[f1];exact OS (by omega) (by omega) (M4 (lG p c _ (R.hel.at_ a) (fO f2 (by decide))) f2).1 z.2
 ·obtain⟨s,g,-⟩:=R.get a;rw[(f g).1,(f g).2]
 ·obtain⟨s,g,-⟩:=R.get a;rw[hD g,(R.sget g).2.2]
 ·obtain⟨s,g,a,A,b,-⟩:=l a;have:=(Ra p c (aa T).length (Ue _) _ (R.hel.at_ a) b).1;intro e;rw[e]at this;simp at this
 ·obtain⟨s,g,a,A,b,r⟩:=l a;rw[(f g).1]at o;have r:=r o;have v:=(f g).2;rw[o]at v;rw[<-v,Vn]at b;have U:=R.hel.at_ a;have P:=lG p c _ U (u (by rw[<-v,b];rfl));unfold aG at b;cases N:((aq (aa T) (av (aa T) n)).k.toList == [36,102])
  ·rw[N,Vn]at b;rcases zc P (by rw[b];simp) E with G | ⟨m,Q,W⟩
   ·exact(mL p c (by omega) (by omega) G hv).elim
   ·obtain⟨I,L,S⟩:=FL W;rw[<-L];exact R.avOf C D (by omega) I (Fo (aa T) (by omega) (by omega) (by omega) S r)
  ·have hl:=SO P N;have E:y∈bA T (aq (aa T) (av (aa T) n)).h:=E;obtain⟨i,O,e⟩:=U7 E;have H:=qF T (aq (aa T) (av (aa T) n)).h i O;rw[Uc,Ub O]at H;have H:y=tS T ((aq (aa T) (av (aa T) n)).h+i):=(by rw[<-e];exact H);have X:i=0∨i=1:=(by omega);rcases X with rfl | rfl
   ·have G:=EQ P (by rw[<-v];unfold aG;rw[N];rfl);rw[VD]at H;rw[<-H]at G;exact(mL p c (by omega) (by omega) G hv).elim
   ·rw[H];exact R.avOf C D A N r
 ·obtain⟨s,g,a,A,b,-⟩:=l a;rw[(f g).1,(f g).2]at o;have U:=R.hel.at_ a;have P:=lG p c _ U (u b);rcases zc P (by rw[o];rfl) E with G | ⟨m,Q,W⟩
  ·right
   cases e:iI T (aa T) y (av (aa T) w)
   ·rfl
   ·exact(mL p c (by omega) (by omega) G e).elim
  ·left
   obtain⟨I,L,S⟩:=FL W;have J:=Nn Q I S (by rw[L];unfold uK kQ;exact UG.2 (Us E));obtain⟨k,t,e1,e2⟩:=No J;rw[Gw];refine⟨k,t,by unfold sx;rw[e2];exact I,?_⟩;rw[e2,<-L];exact(C m (by omega) I).2.symm
 ·obtain⟨s,g,a,A,b,-⟩:=l a;rw[(f g).1,(f g).2]at o;intro Q;have:=Th p c (aa T).length (Ue _) _ (R.hel.at_ a) o;rw[(IS _ _).2 Q]at this;cases this
end
end Go.Proofs.YtnbhnocdhbcbcaaGreat
