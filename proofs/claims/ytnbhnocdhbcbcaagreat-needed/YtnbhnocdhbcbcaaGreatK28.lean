import Derived.Test.YtnbhnocdhbcbcaaGreatK26
import Derived.Test.YtnbhnocdhbcbcaaGreatK27
namespace Go.Proofs.YtnbhnocdhbcbcaaGreat
open Go.RowKit Tryz
open Value IntKind Ending
set_option maxHeartbeats 0
variable{v:List kD}{g:Xv}{H:List St}{w b:Nat}{y:Xs}{k:List Tk}{n:List Sm}{i:St}{N:Xt}(L:List Tk)(x:List Sm)(m:Xv)(c:List Xt)(p:Xt)(o:List St)(I:Nat)(u:St)(M:List kD)(t:Pl)(D:Nat)
section
variable {T:List Tk} {S:List Sm} {l:List St} {a A:Nat} {Va:Xt} {ms:List Bool}
theorem mJ(h:D<M.length):bN (M.map (rs T S)) D=rs T S M[D]:=by
 unfold bN;rw[TG,Uo,TF h];rfl
theorem CW(s:kD):(rs T S s).Yi=s.at_.Yi/\(rs T S s).Yj=s.at_.Yj/\(rs T S s).Yk=s.at_.Yk:=by
 unfold rs;split
 ·exact⟨rfl,rfl,rfl⟩
 ·split <;> exact⟨rfl,rfl,rfl⟩
theorem MV(h:D<c.length):(c++[p]).getD D []=c.getD D []:=by
 rw[TG,TG,Uf h]
theorem MW:(c++[p]).getD c.length []=p:=by
 rw[TG,Ua (TI _),UM];rfl
def Al(lab:Xs)(f:pu):il:=if(f.1==0)=true then⟨lab,4,0,⟨#[]⟩,0,0⟩ else⟨lab,2,f.1,f.2.Yi,f.2.Yj,f.2.Yk⟩
theorem NF(s:0<v.length)(a:Xs)(t:Tk){M:List Xt}(i:vI (v.map (rs T S)) v.length g) :
  tq T S A (v.map (rs T S)) a t M=Al a (Du (np t) (bb T S A) (g.reverse.map (fun q=>M.getD q []))):=by
 cases g with
 | nil=>have:v.length=0:=i;omega
 | cons k g =>
  obtain⟨p,c,o,j⟩:=i;unfold tq;rw[Uh,p,UZ,o,Xx,Uu];cases g with
  | nil =>
   have m:c=0:=j;rw[m,TH (show ¬((((0:Nat):Int)==0)=false) by simp)];show _=Al a (Du (np t) (bb T S A) [M.getD k []]);unfold Du;simp only;cases e:lu (bb T S A) (M.getD k [])
   ·rw[TJ rfl,TH (by
     intro h;have n:=(tR _ _).1 h;have f:=(yH (bb T S A) (M.getD k [])).2 n.symm;rw[e]at f;cases f)]
    rfl
   ·rw[TH (by simp),TJ ((tR _ _).2 ((yH _ _).1 e).symm)];rfl
  | cons d g =>
   obtain⟨b,-⟩:=j;rw[b,TJ (by rw[Ui];omega)];have:∃x y r,((d :: g).reverse.map (fun q=>M.getD q [])++List.map (fun q=>M.getD q []) [k])=x :: y :: r:=by
    have l:2<=((d :: g).reverse.map (fun q=>M.getD q [])++List.map (fun q=>M.getD q []) [k]).length:=(by simp);generalize ((d :: g).reverse.map (fun q=>M.getD q [])++List.map (fun q=>M.getD q []) [k])=L at l
    match L,l with
    | x :: y :: r,_=>exact⟨x,y,r,rfl⟩
   obtain⟨x,y,r,e⟩:=this;rw[e];rfl
theorem PZ(Y:SL T S l a A Va ms)(G:0<v.length)(D:∀i (h:i<v.length),Sb l a i v[i])(b:Xs)(t:Tk)(m:Nat):∀i M K,i+m=v.length->M.length=i->(∀x∈M,SG T S A Va x)->vI (v.map (rs T S)) i K->(∀k∈K,k<i) ->
  nZ T S A (v.map (rs T S)) b t m i M=Al b (kB l Va ms (np t) (bb T S A) (v.drop i) (M,K.reverse.map (fun q=>M.getD q []))):=by
 induction m with
 | zero =>
  intro i M K h f p d j;rw[Vs]at h;rw[nZ,h,WR,kB];rw[h]at d;exact NF G b t d
 | succ m I =>
  intro i M K h f p d j;have n:i<v.length:=by omega
  obtain⟨g,w⟩:=Qp Y (mJ v i n) (D i n) f p d j;rw[nZ,Uj n,kB];cases e:((iD T S A (v.map (rs T S)) i M).2==0)
  ·have g:=g e;have u:((km l Va ms (M,K.reverse.map (fun q=>M.getD q [])) v[i]).1==0)=false:=(by rw[g];exact e);rw[TJ rfl,TH (by rw[u];simp),g];unfold Al;obtain⟨J,L,N⟩:=CW (T:=T) (S:=S) v[i];rw[TH (by simp only;rw[e];simp),mJ v i n,J,L,N]
  ·obtain⟨z,B,C⟩:=w e;rw[TH (by simp),z,TJ (by rfl)];simp only;generalize (iD T S A (v.map (rs T S)) i M).1=x at *;have o:vI (v.map (rs T S)) (i+1) (i :: K.drop (bN (v.map (rs T S)) i).need):=by
    obtain⟨c,r,s,-⟩:=zK (bN (v.map (rs T S)) i).need i K d C;exact⟨rfl,c,by rw[qy];exact r,s⟩
   have:=I (i+1) (M++[x]) (i :: K.drop (bN (v.map (rs T S)) i).need) (by omega) (by simp[f]) (fun y H=>by
    rcases Ut.1 H with h | h
    ·exact p y h
    ·rw[T0.1 h];exact B) o (fun k E=>by
    rcases Un.1 E with h | h
    ·omega
    ·have:=j k (Ws h);omega)
   rw[this,Xx,Uu];congr 3
   ·congr 1
    ·apply VU;intro q F;exact MV M x q (by rw[f];exact j q (Ws (List.mem_reverse.1 F)))
    ·show [(M++[x]).getD i []]=[x]
     rw[<-f,MW]
end
def EQ(l:List St)(a:Nat)(L:List kD):Prop:=∀i s,L[i]?=some s->s.Yd=1∨Sb l a i s
theorem EQ.snoc{s:kD}(h:EQ H w v)(d:s.Yd=1∨Sb H w v.length s):EQ H w (v++[s]):=fun i x a=>by
 by_cases c:i<v.length
 ·rw[Uf c]at a;exact h i x a
 ·have b:=(TT.1 a).1;rw[TO,Wl]at b;have e:i=v.length:=by omega
  subst e;rw[Ua (TI _),UM]at a;rw[<-U5 a];exact d
theorem EQ.nil:EQ o D []:=fun i s h=>by cases h
theorem xE(h:jH H y w=some b):EY H w b:=by
 unfold jH at h;have a:=Vq h;unfold mQ at a;split at a
 ·next s c =>
  simp only[Bool.and_eq_true,Bool.not_eq_true']at a;exact⟨s,c,a.1.2,a.2⟩
 ·cases a
theorem IA(h:b∈aO H w):EY H w b:=by
 unfold aO eM at h;have a:=(Ux.1 h).2;unfold nK at a;split at a
 ·next s e =>
  rw[Uc]at a;refine⟨s,e,?_,a.1⟩;have c:=a.2;unfold qL at c;split at c
  ·next d =>
   have:s.Yd=2:=(by simpa using d);rw[this];rfl
  ·have:s.Yd=3:=(by simpa using c);rw[this];rfl
 ·cases a
theorem Nv(c:List (Xs×Pl)):∀a,EQ H w a->EQ H w (dM H w t c a).1:=by
 induction c with
 | nil=>intro a h;rw[dM];split;exact EQ.nil H w;exact h
 | cons x r b =>
  intro a h;obtain⟨e,p⟩:=x;rw[dM];split
  ·exact b _ (h.snoc (TZ rfl))
  ·split
   ·exact EQ.nil H w
   ·next n d=>exact b _ (h.snoc (TU (TU ⟨rfl,xE d⟩)))
structure Jh(l:List St)(a:Nat)(c:lC):Prop where
 n:∀x∈c.Yg,EY l a x
 t:∀x∈c.X0,x<c.steps.length
 s:EQ l a c.steps
 b:c.behind=true->0<c.steps.length
theorem uZ(h:w<g.length):g.getD w 0∈g:=by
 rw[TG,TF h];exact Ue h
theorem Jh.let{c:lC}(h:Jh H w c)(n:Nat)(p:Pl):Jh H w (bI c n p).2:=by
 have d:∀x,x<c.steps.length->∀s:kD,x<(c.steps++[s]).length:=fun x a s=>by rw[TO];omega
 unfold bI;split
 ·unfold fk dO;split
  ·next e=>exact⟨h.n,fun x a=>d x (h.t x a) _,h.s.snoc (TU (TU ⟨rfl,h.n _ (uZ e)⟩)),fun _=>by simp⟩
  ·split
   ·next e=>exact⟨h.n,fun x a=>d x (h.t x a) _,h.s.snoc (TU (TZ ⟨rfl,h.t _ (uZ e)⟩)),fun _=>by simp⟩
   ·exact⟨h.n,h.t,h.s,h.b⟩
 ·split
  ·unfold jL;split <;> exact⟨h.n,h.t,h.s,fun h=>by cases h⟩
  ·split
   ·next f =>
    refine⟨h.n,fun x a=>?_,h.s,fun h=>by cases h⟩;rcases Ut.1 a with a | a
    ·exact h.t x a
    ·have:=h.b f.2;have:=T0.1 a;show x<c.steps.length;omega
   ·split
    ·exact⟨h.n,fun x a=>d x (h.t x a) _,h.s.snoc (TZ rfl),fun h=>by cases h⟩
    ·exact h
theorem Pm(X:List (Nat×Pl)):∀c,Jh H w c->Jh H w (Bl X c).2:=by
 induction X with
 | nil=>intro c h;exact h
 | cons x r a =>
  intro c h;rw[Bl];split
  ·exact a _ (h.let _ _)
  ·exact h.let _ _
theorem Jw(c:List (Xs×Pl)):∀i b,(∀x∈b,EY H w x)->∀x∈(b7 H w t i c b).2,EY H w x:=by
 induction c with
 | nil=>intro i b h;exact h
 | cons y r e =>
  intro i b h;obtain⟨f,p⟩:=y;rw[b7];split
  ·exact h
  ·split
   ·exact h
   ·next n d =>
    split
    ·exact h
    ·refine e _ _ (fun x a=>?_);rcases Ut.1 a with a | a
     ·exact h x a
     ·rw[T0.1 a];exact xE d
theorem un:EQ o I (dB o I u).1:=by
 unfold dB;split
 ·unfold kQ mY zL;split
  ·split
   ·split
    ·exact EQ.nil o I
    ·have b:Jh o I ⟨(b7 o I u.Yh 1 (u.XY.drop 1) (aO o I)).2,[],[],0,false⟩:=⟨Jw _ _ _ _ (fun x a=>IA a),(fun x a=>by cases a),EQ.nil o I,fun h=>by cases h⟩
     unfold Ct;split
     ·rw[AI];exact(Pm _ _ b).s
     ·exact b.s
   ·exact EQ.nil o I
  ·exact EQ.nil o I
 ·exact Nv _ _ _ (EQ.nil o I)
theorem Fn{p q:Nat->Bool}(h:∀i,i<w->p i=q i):(List.range w).find? p=(List.range w).find? q:=by
 have:∀L:Xv,(∀i∈L,p i=q i)->L.find? p=L.find? q:=by
  intro L
  induction L with
  | nil=>intro _;rfl
  | cons x r b =>
   intro h;rw[Xb,Xb,h x Ur,b (fun i a=>h i (Uq _ a))]
 exact this _ (fun i a=>h i (TY.1 a))
theorem MZ:ie (M.map (rs L x))=match uH M with | some i=>(i:Int) | none=>-1:=by
 unfold ie uH;rw[Uh];have e:(List.range M.length).find? (wt (M.map (rs L x)))=(List.range M.length).find? (fun i=>match M[i]? with | some s=>s.Yd==1 | none=>false):=by
  apply Fn;intro i a;unfold wt;rw[mJ M i a,TF a];simp only;unfold rs;split
  ·next h=>rw[h];rfl
  ·next h =>
   have:(M[i].Yd==1)=false:=Ui.2 h;rw[this];split
   ·simp only;rw[Ui];omega
   ·rfl
 rw[e];cases (List.range M.length).find? (fun i=>match M[i]? with | some s=>s.Yd==1 | none=>false) <;> rfl
def Ou(r:Rw):il:=⟨r.Ye,r.XS,r.why,r.at_.Yi,r.at_.Yj,r.at_.Yk⟩
def nc(r:Rw):Rw:=if r.XS=5 then { r with XS:=4 } else r
theorem Fe(R:pu×lC):((mY t R).2.1==0)=true->0<(mY t R).1.length:=by
 unfold mY;split
 ·split
  ·split
   ·intro h;cases h
   ·intro _;show 0<R.2.steps.length;omega
  ·intro h;cases h
 ·next a=>intro h;exact absurd h a
theorem FX(b:List (Xs×Pl)):∀a,((dM o I t b a).2.1==0)=true->0<(dM o I t b a).1.length:=by
 induction b with
 | nil =>
  intro a;rw[dM];split
  ·intro h;cases h
  ·intro _;show 0<a.length;omega
 | cons x r c =>
  intro a;obtain⟨d,p⟩:=x;rw[dM];split
  ·exact c _
  ·split
   ·intro h;cases h
   ·exact c _
theorem KD:((dB o I u).2.1==0)=true->0<(dB o I u).1.length:=by
 unfold dB;split
 ·exact Fe _ _
 ·exact FX _ _ _ _ _
theorem GR(Y:SL k n H w b (rQ H w) (go H w (rQ H w))){t:Tk}(E:i.Ye=bP k (aq n b))(B:i.Yh=np t)(A:i.XM=bb k n b)(L:List Rw) :
  lA k n b (rh k n (dB H w i)) t=Ou (nc (dq H w i L)):=by
 have v:=un H w i;have s:=KD H w i;unfold lA dq;have y:(rh k n (dB H w i)).st=(dB H w i).1.map (rs k n):=rfl;have z:(rh k n (dB H w i)).why=(dB H w i).2.1:=rfl;have l:(rh k n (dB H w i)).Yi=(dB H w i).2.2.Yi/\(rh k n (dB H w i)).Yj=(dB H w i).2.2.Yj/\(rh k n (dB H w i)).Yk=(dB H w i).2.2.Yk:=⟨rfl,rfl,rfl⟩;rw[y,z,l.1,l.2.1,l.2.2,MZ,<-E];generalize dB H w i=q at *;obtain⟨a,f⟩:=q;simp only at v s ⊢;cases j:(f.1==0)
 ·rw[TJ rfl,TH (by simp)];unfold kG;rw[TH (by rw[j];simp)];rfl
 ·rw[TH (by simp)];have o:f.1=0:=by simpa using j
  cases c:uH a with
  | some u =>
   have e:u<a.length:=by
    unfold uH at c;exact TY.1 (UC c)
   simp only;rw[TJ (by omega),UF,mJ a u e,TH (by simp)];obtain⟨G,I,J⟩:=CW (T:=k) (S:=n) a[u];unfold kG;rw[TJ j,c];simp only;rw[TF e,G,I,J,o];rfl
  | none =>
   simp only;rw[TH (by omega),TJ (by simp),Uh];have r:=s j;have p:∀d (h:d<a.length),Sb H w d a[d]:=fun d h=>by
    rcases v d a[d] (TF h) with m | m
    ·unfold uH at c;rw[US]at c;have:=c d (TY.2 h);rw[TF h]at this;simp only at this;rw[m]at this;exact absurd rfl this
    ·exact m
   have:=PZ Y r p i.Ye t a.length 0 [] [] (by omega) rfl (fun x F=>by cases F) rfl (fun K D=>by cases D);rw[this,Wr];unfold fQ;rw[B,A];show Al i.Ye (kB H (rQ H w) (go H w (rQ H w)) (np t) (bb k n b) a ([],[]))=_;generalize kB H (rQ H w) (go H w (rQ H w)) (np t) (bb k n b) a ([],[])=g;unfold Al kG;cases C:(g.1==0)
   ·rw[TH (by simp),TH (by simp)];rfl
   ·rw[TJ rfl,TJ rfl,c];simp only;split <;> rfl
theorem Jm(c:w<=b)(h:aP x w b=true)(m:Nat):b+m<=x.length->aP x b (b+m)=true->aP x w (b+m)=true:=by
 induction m with
 | zero=>intro _ _;exact h
 | succ m d =>
  intro f a;have e:=AS x w b c (by omega) h b c (TI _);rw[<-Wj,oO x b (b+m) (by omega) (by omega),Uc]at a;rw[<-Wj,oO x w (b+m) (by omega) (by omega),d (by omega) a.1];have:=Xw a.2;simp only[Bool.true_and,decide_eq_true_eq];omega
theorem E5{n:Nat}(c:w<=b)(e:b<=n)(d:n<=x.length)(h:aP x w b=true)(a:aP x b n=true):aP x w n=true:=by
 obtain⟨m,rfl⟩:∃m,n=b+m:=⟨n-b,by omega⟩
 exact Jm x c h m d a
section
variable {T:List Tk} {S:List Sm} {f:Nat}
theorem Oh(P:tE T S w)(d:b<(bu T (aq S w).h).length):(if(((aq S w).k.toList == [36,99])||((aq S w).k.toList == [36,118]))=true then j7 T S (bu T (aq S w).h)[b] w ((aq S w).k.toList == [36,99]) (eF T (aq S w).h ((aq S w).h+b)) else io T S (aq S w).k (bu T (aq S w).h)[b] w (eF T (aq S w).h ((aq S w).h+b)))=0/\(eF T (aq S w).h ((aq S w).h+b)).length=b:=by
 have C:=P.zt;have v:=P.pos;have e:=P.le;have c:=qA T (aq S w).h b d;rw[TG,TF d]at c;have c:(bu T (aq S w).h)[b]=tS T ((aq S w).h+b):=c;have i:=uD P;have B:(bu T (aq S w).h).length<=(aq S w).z-1-(aq S w).h:=by
  rw[i,<-nG T (aq S w).h ((aq S w).z-1) e (by omega)];exact(List.takeWhile_sublist _).length_le
 have j:∀y∈bu T (aq S w).h,(y.toList == [36,61])=false:=fun y n=>by
  rw[i]at n;have:=List.all_takeWhile (p:=jz) (l:=eF T (aq S w).h ((aq S w).z-1));rw[UJ]at this;have:=this y n;unfold jz at this;simpa using this
 obtain⟨u,t⟩:=P.w ((aq S w).h+b) (by omega) (by omega);have s:aK (eF T (aq S w).h ((aq S w).h+b)) ⟨#[36,61]⟩=false:=by
  cases r:aK (eF T (aq S w).h ((aq S w).h+b)) ⟨#[36,61]⟩
  ·rfl
  ·obtain⟨q,x,A,o⟩:=wE (by omega) (by omega) r;have a:q-(aq S w).h<(bu T (aq S w).h).length:=(by omega);have f:=qA T (aq S w).h (q-(aq S w).h) a;rw[TG,TF a,show(aq S w).h+(q-(aq S w).h)=q by omega,o]at f;have g:=j _ (Ue a);rw[show(bu T (aq S w).h)[q-(aq S w).h]=(⟨#[36,61]⟩:Xs) from f]at g;exact absurd g (by decide +kernel)
 have m:=ut u t (by rw[<-c];exact j _ (Ue d)) s;rw[<-c]at m;exact⟨m,by rw[nG T _ _ (by omega) (by omega)];omega⟩
theorem yM(P:tE T S w)(c:(aA (aq S w).k||((aq S w).k.toList == [36,101]))=true)(l:y∈bu T (aq S w).h):eK T S y w=true∨∃m,m<w/\rU T S y w m=true:=by
 obtain⟨i,j,e⟩:=UL l;obtain⟨a,-⟩:=Oh P j;rw[e]at a;have b:(((aq S w).k.toList == [36,99])||((aq S w).k.toList == [36,118]))=false/\((aq S w).k.toList == [36,100])=false/\((aq S w).k.toList == [36,102])=false:=by
  unfold aA at c;simp only[Bool.or_eq_true]at c;rcases c with (h | h) | h <;> (rw[cw h,cw h,cw h,cw h];decide)
 rw[b.1,TH (by simp)]at a;unfold io at a;rw[b.2.1,b.2.2,TH (by simp)]at a;cases g:eK T S y w
 ·right
  rw[g]at a;split at a
  ·simp at a
  ·rw[TH (by simp),TH (by simp)]at a;split at a
   ·cases a
   ·split at a
    ·cases a
    ·next d =>
     unfold gK at d;split at d
     ·next m f=>exact⟨m,TY.1 (UC f),Vq f⟩
     ·omega
 ·exact TZ rfl
theorem Sj(P:tE T S w)(a:((aq S w).k.toList == [36,102])=true):(bu T (aq S w).h).length<=2:=by
 by_cases h:2<(bu T (aq S w).h).length
 ·obtain⟨b,c⟩:=Oh P h;rw[cw a,cw a,TH (by decide)]at b;unfold io at b;rw[c,a,cw a,TH (by decide),TH (by decide),TJ rfl,TJ (by decide)]at b;cases b
 ·omega
theorem IG(h:mO T S y w=true):(aA (aq S w).k||aH (aq S w).k)=true/\bP T (aq S w)=y:=by
 unfold mO at h;rw[Uc]at h;refine⟨?_,uQ (by simpa using h.2)⟩;cases e:(aA (aq S w).k||aH (aq S w).k)
 ·have:bP T (aq S w)=⟨#[]⟩:=by unfold bP;rw[TH (by rw[e];simp)]
  rw[this,UB]at h;simp at h
 ·rfl
theorem Nk(p:Cx T T.length S f)(k:∀q,q<T.length->aY T S q=0)(x:b<S.length)(r:w<b)(C:mO T S y w=true)(D:mO T S y b=true):False:=by
 obtain⟨P,F⟩:=p.s b x;obtain⟨d,n⟩:=IG D;have t:=P.lt;have g:=Cp p b x (aq S b).a (TI _) t;rw[TJ rfl,k _ (by omega)]at g;have u:tS T (aq S b).a=y:=by
  unfold bP at n;rw[TJ d]at n;exact n
 rw[u]at g;have v:=P.k;unfold ee at v;by_cases o:(ii (tS T (aq S b).a) ⟨#[36]⟩||decide (T.length<=(aq S b).a+1))=true
 ·rw[TJ o]at v;have z:(aq S b).k=y:=by rw[<-u];exact congrArg Prod.fst v
  rw[z]at d;unfold dD at g;have j:((y.toList == [36,123])||((y.toList == [36,118])||(y.toList == [36,100])))=false/\(y.toList == [36,125])=false/\(y.toList == [36,99])=false:=by
   unfold aA aH at d;simp only[Bool.or_eq_true]at d;rcases d with (h | h) | (h | h) <;> (rw[cw h,cw h,cw h,cw h,cw h];decide)
  rw[j.1,j.2.1,j.2.2,d,TH (by simp),TH (by simp),TH (by simp),TH (by simp),TH (by simp),TJ rfl]at g;cases g
 ·have i:ii y ⟨#[36]⟩=false:=by
   rw[<-u];cases e:ii (tS T (aq S b).a) ⟨#[36]⟩
   ·rfl
   ·rw[e]at o;exact absurd rfl o
  have c:∀l:List UInt8,l=[36,123]∨l=[36,118]∨l=[36,100]∨l=[36,125]∨l=[36,99]∨l=[36,97]∨l=[36,112]∨l=[36,102]∨l=[36,101]->(y.toList==l)=false:=fun l n=>by
   cases e:(y.toList==l)
   ·rfl
   ·have B:(⟨⟨l⟩⟩:Xs).toList=l:=(by rw[UB]);have A:y=⟨⟨l⟩⟩:=uQ (by rw[B];simpa using e);rw[A]at i;rcases n with rfl | rfl | rfl | rfl | rfl | rfl | rfl | rfl | rfl <;> exact absurd i (by decide +kernel)
  unfold dD aA aH at g;rw[c [36,123] (by simp),c [36,118] (by simp),c [36,100] (by simp),c [36,125] (by simp),c [36,99] (by simp),c [36,97] (by simp),c [36,112] (by simp),c [36,102] (by simp),c [36,101] (by simp),i]at g;simp only[Bool.or_self,Bool.false_and,Bool.false_eq_true,if_false]at g;split at g
  ·cases g
  ·split at g
   ·cases g
   ·next E =>
    apply E;unfold jM;have:0<=bD T S y b:=by
     unfold bD;cases e:(List.range b).find? (mO T S y) with
     | none =>
      rw[US]at e;exact absurd C (e w (TY.2 r))
     | some m=>show(0:Int)<=(m:Int);omega
    rw[U6 this];rfl
end
theorem Gg(c:Xs):c∈bL L x m D ↔ ∃i,i<D/\so x m i=true/\c=(bb L x (m.getD i 0)).getD 1 ⟨#[]⟩:=by
 unfold bL s9;rw[UT];constructor
 ·rintro ⟨i,d,rfl⟩;obtain⟨a,b⟩:=Ux.1 d;exact⟨i,TY.1 a,b,rfl⟩
 ·rintro ⟨i,a,b,rfl⟩;exact⟨i,Ux.2 ⟨TY.2 a,b⟩,rfl⟩
theorem NQ(h:∀j∈m,((aq x j).k.toList == [36,102])=true->(bb L x j).getD 1 ⟨#[]⟩=tS L ((aq x j).h+1)):∀k,k<=m.length->fU L x m k=bL L x m k:=by
 intro k
 induction k with
 | zero=>intro _;rfl
 | succ k b =>
  intro c;have a:k<m.length:=by omega
  rw[qQ,<-b (by omega)];unfold fU so;rw[UD a,UV,Uu,TG,TF a];congr 1;show _=if((aq x m[k]).k.toList == [36,102])=true then [(bb L x m[k]).getD 1 ⟨#[]⟩] else [];split
  ·next e=>rw[XD,TJ e,WZ,h _ (Ue a) e];rfl
  ·next e=>rw[XD,TH e,WZ];rfl
theorem ND(h:N.Pairwise (fun x y=>x≠y)):Jj N:=by
 intro i j a b;rw[V5]at h;have:=h i j (by omega) b a;rw[TG,TG,TF (show i<N.length by omega),TF b,Ui];exact fun e=>this (uQ e)
theorem J0(d:w<(a8 L x D).length)(f:b<(a8 L x D).length)(h:(a8 L x D)[b]<(a8 L x D)[w]):b<w:=by
 have a:(a8 L x D).Pairwise (· < ·):=WX _ Wg;rw[V5]at a;by_cases e:b<w
 ·exact e
 ·by_cases c:b=w
  ·subst c;omega
  ·have:=a w b d f (by omega);omega
theorem Ml:y∈rQ H w ↔ ∃n s,H[n]?=some s/\(s.Yd==2)=true/\fD H n w=true/\y=aN s:=by
 unfold rQ qr;rw[V3];constructor
 ·rintro ⟨n,d,e⟩;unfold vL at e;split at e
  ·next s a =>
   split at e
   ·next h=>exact⟨n,s,a,h.1,h.2,(U5 e).symm⟩
   ·cases e
  ·cases e
 ·rintro ⟨n,s,a,b,c,rfl⟩;refine⟨n,TY.2 (TT.1 a).1,?_⟩;unfold vL;rw[a];simp only;rw[TJ ⟨b,c⟩]
section
variable {T:List Tk} {d:Db}
theorem gB.inj(R:gB T d)(a:w<d.Ya.length)(c:b<d.Ya.length)(h:aw (aa T) w=aw (aa T) b):w=b:=by
 have f:=R.hel.len;rcases WL w b with e | e | e
 ·have:=ge (S:=aa T) e (by omega);omega
 ·exact e
 ·have:=ge (S:=aa T) e (by omega);omega
theorem gB.ltOf(R:gB T d)(c:w<d.Ya.length)(h:aw (aa T) w<aw (aa T) b):w<b:=by
 have a:=R.hel.len;rcases WL w b with e | e | e
 ·exact e
 ·rw[e]at h;omega
 ·have:=ge (S:=aa T) e (by omega);omega
theorem gB.rcOf(R:gB T d){j:Nat}(b:j<(aa T).length)(h:kF (aa T) j=true):∃n,n<d.Ya.length/\aw (aa T) n=j:=by
 have a:j∈lF (aa T):=Ux.2 ⟨TY.2 b,h⟩;rw[uo]at a;obtain⟨n,c,e⟩:=UT.1 a;exact⟨n,by rw[R.hel.len];exact TY.1 c,e⟩
theorem gB.sget(R:gB T d)(e:d.Ya[w]?=some i):fm (aq (aa T) (aw (aa T) w)).k.toList i.Yd/\i.Ye=bP T (aq (aa T) (aw (aa T) w))/\i.XM=bb T (aa T) (aw (aa T) w):=by
 obtain⟨a,b,c,-⟩:=R.ct w i e;exact⟨a,b,c⟩
theorem gB.use(R:gB T d)(t:∀q,q<T.length->aY T (aa T) q=0)(G:∀(n:Nat) (s:St),d.Ya[n]?=some s->oC s.Yd=true->s.til=0)(A:w<d.Ya.length)(x:Xs)(I:(x.toList == [])=false):Sg T (aa T) d.Ya w (aw (aa T) w) x:=by
 have K:=R.hel.at_ A;have p:=dN T;have i:∀{n:Nat} {s:St},d.Ya[n]?=some s->n<d.Ya.length->(s.Yd==1)=false->s.Ye=x->mO T (aa T) x (aw (aa T) n)=true:=fun {n s} c l H C=>by
  obtain⟨r,y,-⟩:=R.sget c;unfold mO;rw[<-y,C,I];simp
 unfold Sg;cases u:jH d.Ya x w with
 | some n =>
  right
  obtain⟨s,c,H,o⟩:=xE u;have l:=(TT.1 c).1;have v:s.Ye=x:=by
   have:=Vq u;unfold mQ at this;rw[c]at this;simp only[Bool.and_eq_true]at this;exact uQ (by simpa using this.1.1)
  have z:=i c l H v;obtain⟨r,y,-⟩:=R.sget c;have m:n<w:=by
   unfold fD at o;rw[c]at o;simp only[Bool.and_eq_true,decide_eq_true_eq]at o;exact o.1
  have E:=ge (S:=aa T) m (by rw[<-R.hel.len];exact A);have D:bD T (aa T) x (aw (aa T) w)=(aw (aa T) n:Nat):=by
   apply ud E z;intro j B;cases e:mO T (aa T) x j
   ·rfl
   ·exact(Nk p t (by omega) B e z).elim
  refine⟨n,rfl,l,?_⟩;unfold dX;rw[D,TH (by omega),UF,TJ];cases b:oC s.Yd
  ·rw[R.held c b A,Uc]at o;rw[o.2,WK]
  ·have:aA (aq (aa T) (aw (aa T) n)).k=true:=by
    unfold aA;rw[<-(cm r).2.2.2];exact b
   rw[this,VD]
 | none =>
  left
  refine⟨rfl,?_⟩;unfold dX;split
  ·omega
  ·next g =>
   rw[TH]
   ·omega
   ·intro f;unfold bD at g f;cases e:(List.range (aw (aa T) w)).find? (mO T (aa T) x) with
    | none=>rw[e]at g;exact g (by simp)
    | some j =>
     rw[e]at f;simp only[Int.toNat_natCast]at f;have B:=TY.1 (UC e);have z:=Vq e;obtain⟨a,C⟩:=IG z
     obtain⟨n,l,F⟩:=R.rcOf (j:=j) (by omega) (by
      unfold kF;unfold aA aH at a;simp only[Bool.or_eq_true]at a ⊢;rcases a with (h | h) | (h | h)
      ·exact TZ (TU h)
      ·exact TU h
      ·exact TZ (TZ (TZ (TU h)))
      ·exact TZ (TZ (TU h)))
     subst F;obtain⟨s,c,r,y,J⟩:=R.get l;have m:=R.ltOf l B;unfold jH at u;rw[US]at u;apply u n (TY.2 l);unfold mQ;rw[c];simp only[Bool.and_eq_true];refine⟨⟨by rw[y,C];simp,?_⟩,?_⟩
     ·rw[(cm r).2.2.1];unfold aA aH at a;simp only[Bool.or_eq_true]at a;rcases a with (h | h) | (h | h) <;> (rw[cw h];decide)
     ·cases b:oC s.Yd
      ·rw[R.held c b A,U6 B];have:aA (aq (aa T) (aw (aa T) n)).k=false:=by
        unfold aA;rw[<-(cm r).2.2.2];exact b
       rw[this,U0]at f;rw[f];rfl
      ·unfold fD;rw[c];simp only;rw[G n s c b,U6 m];rfl
theorem gB.apAll(R:gB T d)(f:w<d.Ya.length)(h:Jj N)(i j:Nat)(a:i<N.length)(b:j<N.length):fG N.length (go d.Ya w N) i j=ew T (aa T) (N.getD i ⟨#[]⟩) (N.getD j ⟨#[]⟩) (aw (aa T) w):=by
 have c:∀x y,ew T (aa T) x y (aw (aa T) w)=ew T (aa T) y x (aw (aa T) w):=fun x y=>by
  unfold ew;congr 1
  funext j
  unfold QE;have e:(x.toList==y.toList)=(y.toList==x.toList):=by rw[UY,Vo,Vo];exact⟨Eq.symm,Eq.symm⟩
  rw[e];cases aK (bu T (aq (aa T) j).h) x <;> cases aK (bu T (aq (aa T) j).h) y <;> rfl
 rw[Jo _ _ _ _ _ a b];rcases WL i j with e | e | e
 ·rw[R.tog f h a b e,Ui.2 (by omega)];rfl
 ·subst e;rw[WT];unfold ew
  symm
  rw[Wz,VJ];apply uP;intro j _;unfold QE;rw[WT];simp
 ·rw[c,<-R.tog f h b a e,Ui.2 (by omega)];have:yS d.Ya w N d.Ya.length i j=yS d.Ya w N d.Ya.length j i:=by
   unfold yS;congr 1
   funext n
   rw[WH,WH,XA ((bM N (Go.Proofs.YtnbhnocdhbcbcaaGreat.symsAt d.Ya n)).contains i)]
  rw[this];rfl
theorem gB.fvar(R:gB T d)(j:Sa T (aa T))(f:d.Ya[w]?=some i)(c:(i.Yd==2)=true):aN i=tS T ((aq (aa T) (aw (aa T) w)).h+1)/\((aq (aa T) (aw (aa T) w)).k.toList == [36,102])=true/\(bb T (aa T) (aw (aa T) w)).getD 1 ⟨#[]⟩=tS T ((aq (aa T) (aw (aa T) w)).h+1):=by
 have m:=(TT.1 f).1;obtain⟨l,-,b⟩:=R.sget f;have e:((aq (aa T) (aw (aa T) w)).k.toList == [36,102])=true:=by rw[<-(cm l).2.1];exact c
 obtain⟨g,a⟩:=j _ (R.hel.at_ m) e;refine⟨?_,e,a⟩;unfold aN;rw[TJ ⟨c,by rw[b];exact g⟩,b];exact a
theorem gB.avOf(R:gB T d)(l:Sa T (aa T))(j:w<d.Ya.length)(m:b<aw (aa T) w)(c:((aq (aa T) b).k.toList == [36,102])=true)(a:aP (aa T) b (aw (aa T) w)=true):tS T ((aq (aa T) b).h+1)∈rQ d.Ya w:=by
 have p:=R.hel.at_ j;obtain⟨n,o,rfl⟩:=R.rcOf (j:=b) (by omega) (by unfold kF;rw[c];simp);obtain⟨s,f,i,-,-⟩:=R.get o;have g:(s.Yd==2)=true:=by rw[(cm i).2.1];exact c
 have e:oC s.Yd=false:=by rw[(cm i).2.2.2,cw c,cw c];decide
 rw[Ml];exact⟨n,s,f,g,by rw[R.held f e j,U6 m,a];rfl,(R.fvar l f g).1.symm⟩
end
theorem rW.avd{d:Db}(F:rW d):Jj (rQ d.Ya w):=by
 apply ND;unfold rQ qr;rw[List.pairwise_filterMap];refine List.pairwise_lt_range.imp_of_mem (fun {n m} hn hm hnm=>?_);intro x a y b;unfold vL at a b;split at a
 ·next s g =>
  split at a
  ·next l =>
   split at b
   ·next u i =>
    split at b
    ·next o =>
     have j:s.Yd=2:=(by simpa using l.1);have k:u.Yd=2:=(by simpa using o.1);have r:s.til=0∨m<s.til:=by
      have c:=l.2;have f:=o.2;unfold fD at c f;rw[g]at c;rw[i]at f;simp only[Bool.and_eq_true,Bool.or_eq_true,decide_eq_true_eq,beq_iff_eq]at c f;rcases c.2 with h | h
      ·exact TZ h
      ·exact TU (by omega)
     have:=F.ds n m s u g i j k hnm r;have p:aN s=vr s:=(by unfold aN vr;rw[TJ ⟨by rw[j];rfl,F.fl n s g j⟩]);have q:aN u=vr u:=(by unfold aN vr;rw[TJ ⟨by rw[k];rfl,F.fl m u i k⟩]);have a:aN s=x:=U5 a;have b:aN u=y:=U5 b;rw[<-a,<-b,p,q];intro e;rw[e]at this;simp at this
    ·cases b
   ·cases b
  ·cases a
 ·cases a
theorem OC(d:w<=b)(f:b<=n.length)(h:iG k n y w=true)(c:aP n w b=true):iG k n y b=true:=by
 unfold iG jG at h ⊢;obtain⟨m,a,e⟩:=UG.1 h;have a:=TY.1 a;unfold oQ at e;simp only[Bool.and_eq_true,Bool.or_eq_true,Bool.not_true,Bool.false_eq_true,or_false]at e;refine na m (by omega) ?_;unfold oQ;rw[e.1,e.2.1,E5 n (by omega) d f e.2.2 c];rfl
theorem M3(d:b<w)(c:((aq n b).k.toList == [36,102])=true)(a:aP n b w=true)(e:tS k ((aq n b).h+1)∈uI k n w):b∈a8 k n w:=by
 refine Ux.2 ⟨TY.2 d,?_⟩;unfold t7;rw[a,c,(Iy _ _).2 e];simp
theorem M4(h:b∈a8 k n w):∃a,∃(c:a<(a8 k n w).length),(a8 k n w)[a]=b/\(a8 k n w).getD a 0=b:=by
 obtain⟨a,c,e⟩:=UL h;exact⟨a,c,e,by rw[TG,TF c];exact e⟩
theorem Fq(h:rU k n y w b=true):((aq n b).k.toList == [36,102])=true/\tS k ((aq n b).h+1)=y/\aP n b w=true:=by
 unfold rU at h;simp only[Bool.and_eq_true]at h;exact⟨h.1,(xf _ _).1 h.2.1,h.2.2⟩
theorem qE(h:b∈aO H w):∃s,H[b]?=some s/\((s.Yd==2)=true∨(s.Yd==3)=true)/\fD H b w=true:=by
 unfold aO eM at h;have a:=(Ux.1 h).2;unfold nK at a;split at a
 ·next s e =>
  rw[Uc]at a;refine⟨s,e,?_,a.1⟩;have c:=a.2;unfold qL at c;split at c
  ·next d=>exact TZ d
  ·exact TU c
 ·cases a
section
variable {T:List Tk} {d:Db}
theorem gB.rcIs(R:gB T d)(a:w<d.Ya.length):kF (aa T) (aw (aa T) w)=true:=by
 have h:aw (aa T) w∈lF (aa T):=by
  unfold aw;rw[TG,TF (by rw[<-R.hel.len];exact a)];exact Ue _
 exact(Ux.1 h).2
theorem gB.hyE(R:gB T d)(F:rW d)(f:∀q,q<T.length->aY T (aa T) q=0)(K:w<d.Ya.length):SU T (aa T) d.Ya (aO d.Ya w):=by
 have E:=R.flo F;have p:=dN T;have G:=R.hyps E K;have hN:=R.hel.at_ K;have b:∀i,i<(aO d.Ya w).length->((aO d.Ya w).map (aw (aa T))).getD i 0=aw (aa T) ((aO d.Ya w).getD i 0):=fun i a=>by
  rw[TG,Uo,TG,TF a];rfl
 have g:∀i,i<(aO d.Ya w).length->(aO d.Ya w).getD i 0∈aO d.Ya w:=fun i a=>uZ a;have D:∀{m:Nat} {s:St},d.Ya[m]?=some s->d.Ya.getD m zu=s:=fun {m s} h=>by rw[TG,h];rfl
 refine⟨fun i a=>?_,fun i a=>?_,fun i a n=>?_,fun i a n x N S=>?_⟩
 ·obtain⟨s,c,j,-⟩:=qE (g i a);obtain⟨o,-,-⟩:=R.sget c;unfold so;rw[b i a,D c,<-(cm o).2.1];rcases j with h | h
  ·rw[h];have:s.Yd=2:=by simpa using h
   rw[this];rfl
  ·rw[h];have:s.Yd=3:=by simpa using h
   rw[this];rfl
 ·obtain⟨s,c,j,-⟩:=qE (g i a);obtain⟨-,-,X⟩:=R.sget c;rw[b i a,D c,X]
 ·obtain⟨s,c,j,-⟩:=qE (g i a);obtain⟨o,-,-⟩:=R.sget c;unfold so at n;rw[b i a]at n ⊢;rw[<-(cm o).2.1]at n;obtain⟨r,-,B⟩:=R.fvar E c n;rw[D c,r,B]
 ·obtain⟨s,c,j,A⟩:=qE (g i a);obtain⟨o,-,-⟩:=R.sget c;have Z:=(TT.1 c).1;unfold so at n;rw[b i a]at n N;have t:((aq (aa T) (aw (aa T) ((aO d.Ya w).getD i 0))).k.toList == [36,101])=true:=by
   rw[<-(cm o).1];rcases j with h | h
   ·rw[(cm o).2.1,n]at h;cases h
   ·exact h
  have C:oC s.Yd=false:=by rw[(cm o).2.2.2,cw t,cw t];decide
  rw[R.held c C K,Uc,UU]at A;have W:=R.hel.at_ Z;have P:=ly p f _ W (fN t (by decide));rw[Gg]at S;rcases yM P (by rw[t];simp) N with H | ⟨m,J,Y⟩
  ·exfalso
   obtain⟨k,j,l,rfl⟩:=S;unfold so at l;rw[b k j]at l H;obtain⟨u,L,-,-⟩:=qE (g k j);have M:=R.hel.at_ (TT.1 L).1;obtain⟨v1,v2⟩:=ML (ly p f _ M (fN l (by decide))) l;have e:(bb T (aa T) (aw (aa T) ((aO d.Ya w).getD k 0))).getD 1 ⟨#[]⟩=tS T ((aq (aa T) (aw (aa T) ((aO d.Ya w).getD k 0))).h+1):=v2;rw[e]at H;exact mC p f (by omega) (by omega) H v1
  ·obtain⟨r,Q,B⟩:=Fq Y;have v:=E5 (aa T) (by omega) (by omega) (by omega) B A.2;have L:tS T ((aq (aa T) m).h+1)∈uI T (aa T) (aw (aa T) w):=by
    rw[Q];unfold uI kM;refine Ut.2 (TU (VY.2 ⟨_,Ux.2 ⟨TY.2 A.1,?_⟩,N⟩));unfold yV;rw[t,A.2];rfl
   have z:=M3 (by omega) r v L;obtain⟨k,j,U,O⟩:=M4 z;have y:i<(a8 T (aa T) (aw (aa T) w)).length:=(by rw[<-G,Uh];exact a);have V:(a8 T (aa T) (aw (aa T) w))[i]=aw (aa T) ((aO d.Ya w).getD i 0):=by
    have:=b i a;rw[G,TG,TF y]at this;exact this
   have I:=J0 T (aa T) (aw (aa T) w) y j (by rw[U,V];exact J);rw[G,Gg];refine⟨k,I,by unfold so;rw[O];exact r,?_⟩;rw[O,<-Q];exact(E m (by omega) r).2.symm
theorem gB.py(R:gB T d)(F:rW d)(c:∀q,q<T.length->aY T (aa T) q=0)(D:w<d.Ya.length):SL T (aa T) d.Ya w (aw (aa T) w) (rQ d.Ya w) (go d.Ya w (rQ d.Ya w)):=by
 have C:=R.flo F;have p:=dN T;have hA:=R.hel.at_ D;have hD:∀{m:Nat} {s:St},d.Ya[m]?=some s->d.Ya.getD m zu=s:=fun {m s} h=>by rw[TG,h];rfl
 have f:∀{m:Nat} {s:St},d.Ya[m]?=some s->nI d.Ya m=oC s.Yd/\oC s.Yd=aA (aq (aa T) (aw (aa T) m)).k:=fun {m s} h=>by
  obtain⟨V,-,-⟩:=R.sget h;refine⟨by unfold nI;rw[h],?_⟩;rw[(cm V).2.2.2];rfl
 have K:∀n,n<d.Ya.length->Jj (zn T (aa T) (aw (aa T) n))/\fU T (aa T) (a8 T (aa T) (aw (aa T) n)) (a8 T (aa T) (aw (aa T) n)).length=zn T (aa T) (aw (aa T) n):=fun n a=>by
  have hN:=R.hel.at_ a;have e:fU T (aa T) (a8 T (aa T) (aw (aa T) n)) (a8 T (aa T) (aw (aa T) n)).length=zn T (aa T) (aw (aa T) n):=NQ T (aa T) _ (fun j Y t=>(C j (by have:=qG T (aa T) _ j Y;omega) t).2) _ (TI _);refine⟨?_,e⟩;rw[<-e,<-R.vars C a];exact F.vsd
 have l:∀{n:Nat},EY d.Ya w n->∃s,d.Ya[n]?=some s/\n<d.Ya.length/\aw (aa T) n<aw (aa T) w/\(aA (aq (aa T) (aw (aa T) n)).k||aH (aq (aa T) (aw (aa T) n)).k)=true/\(oC s.Yd=false->aP (aa T) (aw (aa T) n) (aw (aa T) w)=true):=fun {n} h=>by
  obtain⟨s,g,t,z⟩:=h;have a:=(TT.1 g).1;have Z:n<w:=by
   unfold fD at z;rw[g]at z;simp only[Bool.and_eq_true,decide_eq_true_eq]at z;exact z.1
  refine⟨s,g,a,ge Z (by rw[<-R.hel.len];exact D),?_,fun B=>?_⟩
  ·have M:=R.rcIs a;obtain⟨V,-,-⟩:=R.sget g;rw[(cm V).2.2.1]at t;unfold kF at M;rw[t]at M;unfold aA aH;simp only[Bool.or_eq_true,Bool.false_or]at M ⊢;rcases M with ((h | h) | h) | h
   ·exact TU (TZ h)
   ·exact TU (TU h)
   ·exact TZ (TZ h)
   ·exact TZ (TU h)
  ·rw[R.held g B D,Uc]at z;exact z.2
 have u:∀{k:Xs},(aA k||aH k)=true->cd k=false:=fun {k} t=>by
  unfold aA aH at t;simp only[Bool.or_eq_true]at t;rcases t with (h | h) | (h | h) <;> exact fN h (by decide)
 refine⟨R.apAll D F.avd,fun x hx=>?_,fun n a=>?_,fun n a=>?_,fun n a _=>⟨R.hyE F c a,R.hyps C a⟩,fun n a _=>K n a,fun n a _ i j O Y=>R.apAll a (K n a).1 i j O Y,fun n a=>?_,fun n a o y E hv=>?_,fun n a o=>⟨fun y E=>?_,?_⟩⟩
 ·obtain⟨n,s,g,t,z,rfl⟩:=Ml.1 hx;have a:=(TT.1 g).1;obtain⟨f1,f2,-⟩:=R.fvar C g t;have B:oC s.Yd=false:=by rw[show s.Yd=2 by simpa using t];rfl
  rw[R.held g B D,Uc,UU]at z;rw[f1];exact OC (by omega) (by omega) (ML (ly p c _ (R.hel.at_ a) (fN f2 (by decide))) f2).1 z.2
 ·obtain⟨s,g,-⟩:=R.get a;rw[(f g).1,(f g).2]
 ·obtain⟨s,g,-⟩:=R.get a;rw[hD g,(R.sget g).2.2]
 ·obtain⟨s,g,a,A,b,-⟩:=l a;have:=(QG p c (aa T).length (TI _) _ (R.hel.at_ a) b).1;intro e;rw[e]at this;simp at this
 ·obtain⟨s,g,a,A,b,r⟩:=l a;rw[(f g).1]at o;have r:=r o;have v:=(f g).2;rw[o]at v;rw[<-v,U0]at b;have U:=R.hel.at_ a;have P:=ly p c _ U (u (by rw[<-v,b];rfl));unfold aH at b;cases N:((aq (aa T) (aw (aa T) n)).k.toList == [36,102])
  ·rw[N,U0]at b;rcases yM P (by rw[b];simp) E with G | ⟨m,Q,W⟩
   ·exact(mC p c (by omega) (by omega) G hv).elim
   ·obtain⟨I,L,S⟩:=Fq W;rw[<-L];exact R.avOf C D (by omega) I (E5 (aa T) (by omega) (by omega) (by omega) S r)
  ·have hl:=Sj P N;have E:y∈bu T (aq (aa T) (aw (aa T) n)).h:=E;obtain⟨i,O,e⟩:=UL E;have H:=qA T (aq (aa T) (aw (aa T) n)).h i O;rw[TG,TF O]at H;have H:y=tS T ((aq (aa T) (aw (aa T) n)).h+i):=(by rw[<-e];exact H);have X:i=0∨i=1:=(by omega);rcases X with rfl | rfl
   ·have G:=EA P (by rw[<-v];unfold aH;rw[N];rfl);rw[Vs]at H;rw[<-H]at G;exact(mC p c (by omega) (by omega) G hv).elim
   ·rw[H];exact R.avOf C D A N r
 ·obtain⟨s,g,a,A,b,-⟩:=l a;rw[(f g).1,(f g).2]at o;have U:=R.hel.at_ a;have P:=ly p c _ U (u b);rcases yM P (by rw[o];rfl) E with G | ⟨m,Q,W⟩
  ·right
   cases e:iG T (aa T) y (aw (aa T) w)
   ·rfl
   ·exact(mC p c (by omega) (by omega) G e).elim
  ·left
   obtain⟨I,L,S⟩:=Fq W;have J:=M3 Q I S (by rw[L];unfold uI kM;exact Ut.2 (TZ E));obtain⟨k,t,e1,e2⟩:=M4 J;rw[Gg];refine⟨k,t,by unfold so;rw[e2];exact I,?_⟩;rw[e2,<-L];exact(C m (by omega) I).2.symm
 ·obtain⟨s,g,a,A,b,-⟩:=l a;rw[(f g).1,(f g).2]at o;intro Q;have:=SA p c (aa T).length (TI _) _ (R.hel.at_ a) o;rw[(Iy _ _).2 Q]at this;cases this
end
end Go.Proofs.YtnbhnocdhbcbcaaGreat
