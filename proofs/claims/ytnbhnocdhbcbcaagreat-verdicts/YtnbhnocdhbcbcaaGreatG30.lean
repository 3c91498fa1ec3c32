import Derived.Test.YtnbhnocdhbcbcaaGreatG27
import Derived.Test.YtnbhnocdhbcbcaaGreatG28
namespace Go.Proofs.YtnbhnocdhbcbcaaGreat
open Go.RowKit Tryz
open Value IntKind Ending
set_option maxHeartbeats 0
variable{v:List kK}{g:List Nat}{H:List St}{w b:Nat}{y:ByteArray}{k:List Tk}{n:List Sm}{i:St}{N:List ByteArray}(L:List Tk)(x:List Sm)(m:List Nat)(c:List (List ByteArray))(p:List ByteArray)(o:List St)(I:Nat)(u:St)(M:List kK)(t:Pl)(D:Nat)
section
variable {T:List Tk} {S:List Sm} {l:List St} {a A:Nat} {Va:List ByteArray} {ms:List Bool}
theorem oC(h:D<M.length):bK (M.map (rO T S)) D=rO T S M[D]:=by
 unfold bK;rw[RT,Sy,RQ h];rfl
theorem BZ(s:kK):(rO T S s).file=s.at_.file/\(rO T S s).line=s.at_.line/\(rO T S s).col=s.at_.col:=by
 unfold rO;split
 ·exact⟨rfl,rfl,rfl⟩
 ·split <;> exact⟨rfl,rfl,rfl⟩
theorem LT(h:D<c.length):(c++[p]).getD D []=c.getD D []:=by
 rw[RT,RT,Si h]
theorem LU:(c++[p]).getD c.length []=p:=by
 rw[RT,Sf (RV _),Td];rfl
def zy(lab:ByteArray)(f:oL):fO:=if(f.1==0)=true then⟨lab,4,0,⟨#[]⟩,0,0⟩ else⟨lab,2,f.1,f.2.file,f.2.line,f.2.col⟩
theorem MI(s:0<v.length)(a:ByteArray)(t:Tk){M:List (List ByteArray)}(i:uY (v.map (rO T S)) v.length g) :
  sB T S A (v.map (rO T S)) a t M=zy a (CD (mU t) (a8 T S A) (g.reverse.map (fun q=>M.getD q []))):=by
 cases g with
 | nil=>have:v.length=0:=i;omega
 | cons k g =>
  obtain⟨p,c,o,j⟩:=i;unfold sB;rw[Sn,p,Tq,o,VR,SF];cases g with
  | nil =>
   have m:c=0:=j;rw[m,RU (show ¬((((0:Nat):Int)==0)=false) by simp)];show _=zy a (CD (mU t) (a8 T S A) [M.getD k []]);unfold CD;simp only;cases e:kY (a8 T S A) (M.getD k [])
   ·rw[RY rfl,RU (by
     intro h;have n:=(tj _ _).1 h;have f:=(xL (a8 T S A) (M.getD k [])).2 n.symm;rw[e]at f;cases f)]
    rfl
   ·rw[RU (by simp),RY ((tj _ _).2 ((xL _ _).1 e).symm)];rfl
  | cons d g =>
   obtain⟨b,-⟩:=j;rw[b,RY (by rw[Sp];omega)];have:∃x y r,((d :: g).reverse.map (fun q=>M.getD q [])++List.map (fun q=>M.getD q []) [k])=x :: y :: r:=by
    have l:2<=((d :: g).reverse.map (fun q=>M.getD q [])++List.map (fun q=>M.getD q []) [k]).length:=(by simp);generalize ((d :: g).reverse.map (fun q=>M.getD q [])++List.map (fun q=>M.getD q []) [k])=L at l
    match L,l with
    | x :: y :: r,_=>exact⟨x,y,r,rfl⟩
   obtain⟨x,y,r,e⟩:=this;rw[e];rfl
theorem OL(Y:Ra T S l a A Va ms)(G:0<v.length)(D:∀i (h:i<v.length),QI l a i v[i])(b:ByteArray)(t:Tk)(m:Nat):∀i M K,i+m=v.length->M.length=i->(∀x∈M,Q8 T S A Va x)->uY (v.map (rO T S)) i K->(∀k∈K,k<i) ->
  nE T S A (v.map (rO T S)) b t m i M=zy b (ke l Va ms (mU t) (a8 T S A) (v.drop i) (M,K.reverse.map (fun q=>M.getD q []))):=by
 induction m with
 | zero =>
  intro i M K h f p d j;rw[Ui]at h;rw[nE,h,Vn,ke];rw[h]at d;exact MI G b t d
 | succ m I =>
  intro i M K h f p d j;have n:i<v.length:=by omega
  obtain⟨g,w⟩:=O4 Y (oC v i n) (D i n) f p d j;rw[nE,Sq n,ke];cases e:((ig T S A (v.map (rO T S)) i M).2==0)
  ·have g:=g e;have u:((j6 l Va ms (M,K.reverse.map (fun q=>M.getD q [])) v[i]).1==0)=false:=(by rw[g];exact e);rw[RY rfl,RU (by rw[u];simp),g];unfold zy;obtain⟨J,L,N⟩:=BZ (T:=T) (S:=S) v[i];rw[RU (by simp only;rw[e];simp),oC v i n,J,L,N]
  ·obtain⟨z,B,C⟩:=w e;rw[RU (by simp),z,RY (by rfl)];simp only;generalize (ig T S A (v.map (rO T S)) i M).1=x at *;have o:uY (v.map (rO T S)) (i+1) (i :: K.drop (bK (v.map (rO T S)) i).need):=by
    obtain⟨c,r,s,-⟩:=yW (bK (v.map (rO T S)) i).need i K d C;exact⟨rfl,c,by rw[pO];exact r,s⟩
   have:=I (i+1) (M++[x]) (i :: K.drop (bK (v.map (rO T S)) i).need) (by omega) (by simp[f]) (fun y H=>by
    rcases SB.1 H with h | h
    ·exact p y h
    ·rw[Se.1 h];exact B) o (fun k E=>by
    rcases Sv.1 E with h | h
    ·omega
    ·have:=j k (U3 h);omega)
   rw[this,VR,SF];congr 3
   ·congr 1
    ·apply Ux;intro q F;exact LT M x q (by rw[f];exact j q (U3 (List.mem_reverse.1 F)))
    ·show [(M++[x]).getD i []]=[x]
     rw[<-f,LU]
end
def DO(l:List St)(a:Nat)(L:List kK):Prop:=∀i s,L[i]?=some s->s.kind=1∨QI l a i s
theorem DO.snoc{s:kK}(h:DO H w v)(d:s.kind=1∨QI H w v.length s):DO H w (v++[s]):=fun i x a=>by
 by_cases c:i<v.length
 ·rw[Si c]at a;exact h i x a
 ·have b:=(R8.1 a).1;rw[R9,UU]at b;have e:i=v.length:=by omega
  subst e;rw[Sf (RV _),Td]at a;rw[<-TU a];exact d
theorem DO.nil:DO o D []:=fun i s h=>by cases h
theorem wT(h:jo H y w=some b):DT H w b:=by
 unfold jo at h;have a:=Uo h;unfold mB at a;split at a
 ·next s c =>
  simp only[Bool.and_eq_true,Bool.not_eq_true']at a;exact⟨s,c,a.1.2,a.2⟩
 ·cases a
theorem GM(h:b∈aN H w):DT H w b:=by
 unfold aN eu at h;have a:=(SD.1 h).2;unfold np at a;split at a
 ·next s e =>
  rw[Sk]at a;refine⟨s,e,?_,a.1⟩;have c:=a.2;unfold qc at c;split at c
  ·next d =>
   have:s.kind=2:=(by simpa using d);rw[this];rfl
  ·have:s.kind=3:=(by simpa using c);rw[this];rfl
 ·cases a
theorem My(c:List (ByteArray×Pl)):∀a,DO H w a->DO H w (dP H w t c a).1:=by
 induction c with
 | nil=>intro a h;rw[dP];split;exact DO.nil H w;exact h
 | cons x r b =>
  intro a h;obtain⟨e,p⟩:=x;rw[dP];split
  ·exact b _ (h.snoc (R4 rfl))
  ·split
   ·exact DO.nil H w
   ·next n d=>exact b _ (h.snoc (RZ (RZ ⟨rfl,wT d⟩)))
structure Il(l:List St)(a:Nat)(c:lj):Prop where
 n:∀x∈c.names,DT l a x
 t:∀x∈c.Wr,x<c.steps.length
 s:DO l a c.steps
 b:c.behind=true->0<c.steps.length
theorem ux(h:w<g.length):g.getD w 0∈g:=by
 rw[RT,RQ h];exact Sj h
theorem Il.let{c:lj}(h:Il H w c)(n:Nat)(p:Pl):Il H w (bB c n p).2:=by
 have d:∀x,x<c.steps.length->∀s:kK,x<(c.steps++[s]).length:=fun x a s=>by rw[R9];omega
 unfold bB;split
 ·unfold eQ dB;split
  ·next e=>exact⟨h.n,fun x a=>d x (h.t x a) _,h.s.snoc (RZ (RZ ⟨rfl,h.n _ (ux e)⟩)),fun _=>by simp⟩
  ·split
   ·next e=>exact⟨h.n,fun x a=>d x (h.t x a) _,h.s.snoc (RZ (R4 ⟨rfl,h.t _ (ux e)⟩)),fun _=>by simp⟩
   ·exact⟨h.n,h.t,h.s,h.b⟩
 ·split
  ·unfold jx;split <;> exact⟨h.n,h.t,h.s,fun h=>by cases h⟩
  ·split
   ·next f =>
    refine⟨h.n,fun x a=>?_,h.s,fun h=>by cases h⟩;rcases SB.1 a with a | a
    ·exact h.t x a
    ·have:=h.b f.2;have:=Se.1 a;show x<c.steps.length;omega
   ·split
    ·exact⟨h.n,fun x a=>d x (h.t x a) _,h.s.snoc (R4 rfl),fun h=>by cases h⟩
    ·exact h
theorem Oc(X:List (Nat×Pl)):∀c,Il H w c->Il H w (Au X c).2:=by
 induction X with
 | nil=>intro c h;exact h
 | cons x r a =>
  intro c h;rw[Au];split
  ·exact a _ (h.let _ _)
  ·exact h.let _ _
theorem ID(c:List (ByteArray×Pl)):∀i b,(∀x∈b,DT H w x)->∀x∈(bW H w t i c b).2,DT H w x:=by
 induction c with
 | nil=>intro i b h;exact h
 | cons y r e =>
  intro i b h;obtain⟨f,p⟩:=y;rw[bW];split
  ·exact h
  ·split
   ·exact h
   ·next n d =>
    split
    ·exact h
    ·refine e _ _ (fun x a=>?_);rcases SB.1 a with a | a
     ·exact h x a
     ·rw[Se.1 a];exact wT d
theorem AV:DO o I (dK o I u).1:=by
 unfold dK;split
 ·unfold kM ng yX;split
  ·split
   ·split
    ·exact DO.nil o I
    ·have b:Il o I ⟨(bW o I u.fin 1 (u.Wp.drop 1) (aN o I)).2,[],[],0,false⟩:=⟨ID _ _ _ _ (fun x a=>GM a),(fun x a=>by cases a),DO.nil o I,fun h=>by cases h⟩
     unfold Bt;split
     ·rw[zT];exact(Oc _ _ b).s
     ·exact b.s
   ·exact DO.nil o I
  ·exact DO.nil o I
 ·exact My _ _ _ (DO.nil o I)
theorem Eu{p q:Nat->Bool}(h:∀i,i<w->p i=q i):(List.range w).find? p=(List.range w).find? q:=by
 have:∀L:List Nat,(∀i∈L,p i=q i)->L.find? p=L.find? q:=by
  intro L
  induction L with
  | nil=>intro _;rfl
  | cons x r b =>
   intro h;rw[Vy,Vy,h x Sz,b (fun i a=>h i (Sx _ a))]
 exact this _ (fun i a=>h i (Sd.1 a))
theorem LY:gN (M.map (rO L x))=match ua M with | some i=>(i:Int) | none=>-1:=by
 unfold gN ua;rw[Sn];have e:(List.range M.length).find? (vJ (M.map (rO L x)))=(List.range M.length).find? (fun i=>match M[i]? with | some s=>s.kind==1 | none=>false):=by
  apply Eu;intro i a;unfold vJ;rw[oC M i a,RQ a];simp only;unfold rO;split
  ·next h=>rw[h];rfl
  ·next h =>
   have:(M[i].kind==1)=false:=Sp.2 h;rw[this];split
   ·simp only;rw[Sp];omega
   ·rfl
 rw[e];cases (List.range M.length).find? (fun i=>match M[i]? with | some s=>s.kind==1 | none=>false) <;> rfl
def Dz(r:Rw):fO:=⟨r.label,r.Wk,r.why,r.at_.file,r.at_.line,r.at_.col⟩
def mL(r:Rw):Rw:=if r.Wk=5 then { r with Wk:=4 } else r
theorem Ek(R:oL×lj):((ng t R).2.1==0)=true->0<(ng t R).1.length:=by
 unfold ng;split
 ·split
  ·split
   ·intro h;cases h
   ·intro _;show 0<R.2.steps.length;omega
  ·intro h;cases h
 ·next a=>intro h;exact absurd h a
theorem E6(b:List (ByteArray×Pl)):∀a,((dP o I t b a).2.1==0)=true->0<(dP o I t b a).1.length:=by
 induction b with
 | nil =>
  intro a;rw[dP];split
  ·intro h;cases h
  ·intro _;show 0<a.length;omega
 | cons x r c =>
  intro a;obtain⟨d,p⟩:=x;rw[dP];split
  ·exact c _
  ·split
   ·intro h;cases h
   ·exact c _
theorem JM:((dK o I u).2.1==0)=true->0<(dK o I u).1.length:=by
 unfold dK;split
 ·exact Ek _ _
 ·exact E6 _ _ _ _ _
theorem FX(Y:Ra k n H w b (rd H w) (gq H w (rd H w))){t:Tk}(E:i.label=bN k (aq n b))(B:i.fin=mU t)(A:i.We=a8 k n b)(L:List Rw) :
  lh k n b (qy k n (dK H w i)) t=Dz (mL (dh H w i L)):=by
 have v:=AV H w i;have s:=JM H w i;unfold lh dh;have y:(qy k n (dK H w i)).st=(dK H w i).1.map (rO k n):=rfl;have z:(qy k n (dK H w i)).why=(dK H w i).2.1:=rfl;have l:(qy k n (dK H w i)).file=(dK H w i).2.2.file/\(qy k n (dK H w i)).line=(dK H w i).2.2.line/\(qy k n (dK H w i)).col=(dK H w i).2.2.col:=⟨rfl,rfl,rfl⟩;rw[y,z,l.1,l.2.1,l.2.2,LY,<-E];generalize dK H w i=q at *;obtain⟨a,f⟩:=q;simp only at v s ⊢;cases j:(f.1==0)
 ·rw[RY rfl,RU (by simp)];unfold kj;rw[RU (by rw[j];simp)];rfl
 ·rw[RU (by simp)];have o:f.1=0:=by simpa using j
  cases c:ua a with
  | some u =>
   have e:u<a.length:=by
    unfold ua at c;exact Sd.1 (SU c)
   simp only;rw[RY (by omega),SO,oC a u e,RU (by simp)];obtain⟨G,I,J⟩:=BZ (T:=k) (S:=n) a[u];unfold kj;rw[RY j,c];simp only;rw[RQ e,G,I,J,o];rfl
  | none =>
   simp only;rw[RU (by omega),RY (by simp),Sn];have r:=s j;have p:∀d (h:d<a.length),QI H w d a[d]:=fun d h=>by
    rcases v d a[d] (RQ h) with m | m
    ·unfold ua at c;rw[Tn]at c;have:=c d (Sd.2 h);rw[RQ h]at this;simp only at this;rw[m]at this;exact absurd rfl this
    ·exact m
   have:=OL Y r p i.label t a.length 0 [] [] (by omega) rfl (fun x F=>by cases F) rfl (fun K D=>by cases D);rw[this,U0];unfold fE;rw[B,A];show zy i.label (ke H (rd H w) (gq H w (rd H w)) (mU t) (a8 k n b) a ([],[]))=_;generalize ke H (rd H w) (gq H w (rd H w)) (mU t) (a8 k n b) a ([],[])=g;unfold zy kj;cases C:(g.1==0)
   ·rw[RU (by simp),RU (by simp)];rfl
   ·rw[RY rfl,RY rfl,c];simp only;split <;> rfl
theorem Ir(c:w<=b)(h:aM x w b=true)(m:Nat):b+m<=x.length->aM x b (b+m)=true->aM x w (b+m)=true:=by
 induction m with
 | zero=>intro _ _;exact h
 | succ m d =>
  intro f a;have e:=zZ x w b c (by omega) h b c (RV _);rw[<-UR,og x b (b+m) (by omega) (by omega),Sk]at a;rw[<-UR,og x w (b+m) (by omega) (by omega),d (by omega) a.1];have:=VQ a.2;simp only[Bool.true_and,decide_eq_true_eq];omega
theorem Ea{n:Nat}(c:w<=b)(e:b<=n)(d:n<=x.length)(h:aM x w b=true)(a:aM x b n=true):aM x w n=true:=by
 obtain⟨m,rfl⟩:∃m,n=b+m:=⟨n-b,by omega⟩
 exact Ir x c h m d a
section
variable {T:List Tk} {S:List Sm} {f:Nat}
theorem Nn(P:sN T S w)(d:b<(bq T (aq S w).h).length):(if(((aq S w).k.toList == [36,99])||((aq S w).k.toList == [36,118]))=true then jT T S (bq T (aq S w).h)[b] w ((aq S w).k.toList == [36,99]) (dX T (aq S w).h ((aq S w).h+b)) else g7 T S (aq S w).k (bq T (aq S w).h)[b] w (dX T (aq S w).h ((aq S w).h+b)))=0/\(dX T (aq S w).h ((aq S w).h+b)).length=b:=by
 have C:=P.zt;have v:=P.pos;have e:=P.le;have c:=pQ T (aq S w).h b d;rw[RT,RQ d]at c;have c:(bq T (aq S w).h)[b]=tS T ((aq S w).h+b):=c;have i:=tZ P;have B:(bq T (aq S w).h).length<=(aq S w).z-1-(aq S w).h:=by
  rw[i,<-nf T (aq S w).h ((aq S w).z-1) e (by omega)];exact(List.takeWhile_sublist _).length_le
 have j:∀y∈bq T (aq S w).h,(y.toList == [36,61])=false:=fun y n=>by
  rw[i]at n;have:=List.all_takeWhile (p:=jb) (l:=dX T (aq S w).h ((aq S w).z-1));rw[Tb]at this;have:=this y n;unfold jb at this;simpa using this
 obtain⟨u,t⟩:=P.w ((aq S w).h+b) (by omega) (by omega);have s:aJ (dX T (aq S w).h ((aq S w).h+b)) ⟨#[36,61]⟩=false:=by
  cases r:aJ (dX T (aq S w).h ((aq S w).h+b)) ⟨#[36,61]⟩
  ·rfl
  ·obtain⟨q,x,A,o⟩:=vP (by omega) (by omega) r;have a:q-(aq S w).h<(bq T (aq S w).h).length:=(by omega);have f:=pQ T (aq S w).h (q-(aq S w).h) a;rw[RT,RQ a,show(aq S w).h+(q-(aq S w).h)=q by omega,o]at f;have g:=j _ (Sj a);rw[show(bq T (aq S w).h)[q-(aq S w).h]=(⟨#[36,61]⟩:ByteArray) from f]at g;exact absurd g (by decide +kernel)
 have m:=tQ u t (by rw[<-c];exact j _ (Sj d)) s;rw[<-c]at m;exact⟨m,by rw[nf T _ _ (by omega) (by omega)];omega⟩
theorem xQ(P:sN T S w)(c:(ay (aq S w).k||((aq S w).k.toList == [36,101]))=true)(l:y∈bq T (aq S w).h):ee T S y w=true∨∃m,m<w/\rj T S y w m=true:=by
 obtain⟨i,j,e⟩:=Tg l;obtain⟨a,-⟩:=Nn P j;rw[e]at a;have b:(((aq S w).k.toList == [36,99])||((aq S w).k.toList == [36,118]))=false/\((aq S w).k.toList == [36,100])=false/\((aq S w).k.toList == [36,102])=false:=by
  unfold ay at c;simp only[Bool.or_eq_true]at c;rcases c with (h | h) | h <;> (rw[cg h,cg h,cg h,cg h];decide)
 rw[b.1,RU (by simp)]at a;unfold g7 at a;rw[b.2.1,b.2.2,RU (by simp)]at a;cases g:ee T S y w
 ·right
  rw[g]at a;split at a
  ·simp at a
  ·rw[RU (by simp),RU (by simp)]at a;split at a
   ·cases a
   ·split at a
    ·cases a
    ·next d =>
     unfold go at d;split at d
     ·next m f=>exact⟨m,Sd.1 (SU f),Uo f⟩
     ·omega
 ·exact R4 rfl
theorem QP(P:sN T S w)(a:((aq S w).k.toList == [36,102])=true):(bq T (aq S w).h).length<=2:=by
 by_cases h:2<(bq T (aq S w).h).length
 ·obtain⟨b,c⟩:=Nn P h;rw[cg a,cg a,RU (by decide)]at b;unfold g7 at b;rw[c,a,cg a,RU (by decide),RU (by decide),RY rfl,RY (by decide)]at b;cases b
 ·omega
theorem GS(h:mz T S y w=true):(ay (aq S w).k||aF (aq S w).k)=true/\bN T (aq S w)=y:=by
 unfold mz at h;rw[Sk]at h;refine⟨?_,uk (by simpa using h.2)⟩;cases e:(ay (aq S w).k||aF (aq S w).k)
 ·have:bN T (aq S w)=⟨#[]⟩:=by unfold bN;rw[RU (by rw[e];simp)]
  rw[this,SM]at h;simp at h
 ·rfl
theorem Mp(p:By T T.length S f)(k:∀q,q<T.length->a9 T S q=0)(x:b<S.length)(r:w<b)(C:mz T S y w=true)(D:mz T S y b=true):False:=by
 obtain⟨P,F⟩:=p.s b x;obtain⟨d,n⟩:=GS D;have t:=P.lt;have g:=Bq p b x (aq S b).a (RV _) t;rw[RY rfl,k _ (by omega)]at g;have u:tS T (aq S b).a=y:=by
  unfold bN at n;rw[RY d]at n;exact n
 rw[u]at g;have v:=P.k;unfold dQ at v;by_cases o:(gW (tS T (aq S b).a) ⟨#[36]⟩||decide (T.length<=(aq S b).a+1))=true
 ·rw[RY o]at v;have z:(aq S b).k=y:=by rw[<-u];exact congrArg Prod.fst v
  rw[z]at d;unfold dq at g;have j:((y.toList == [36,123])||((y.toList == [36,118])||(y.toList == [36,100])))=false/\(y.toList == [36,125])=false/\(y.toList == [36,99])=false:=by
   unfold ay aF at d;simp only[Bool.or_eq_true]at d;rcases d with (h | h) | (h | h) <;> (rw[cg h,cg h,cg h,cg h,cg h];decide)
  rw[j.1,j.2.1,j.2.2,d,RU (by simp),RU (by simp),RU (by simp),RU (by simp),RU (by simp),RY rfl]at g;cases g
 ·have i:gW y ⟨#[36]⟩=false:=by
   rw[<-u];cases e:gW (tS T (aq S b).a) ⟨#[36]⟩
   ·rfl
   ·rw[e]at o;exact absurd rfl o
  have c:∀l:List UInt8,l=[36,123]∨l=[36,118]∨l=[36,100]∨l=[36,125]∨l=[36,99]∨l=[36,97]∨l=[36,112]∨l=[36,102]∨l=[36,101]->(y.toList==l)=false:=fun l n=>by
   cases e:(y.toList==l)
   ·rfl
   ·have B:(⟨⟨l⟩⟩:ByteArray).toList=l:=(by rw[SM]);have A:y=⟨⟨l⟩⟩:=uk (by rw[B];simpa using e);rw[A]at i;rcases n with rfl | rfl | rfl | rfl | rfl | rfl | rfl | rfl | rfl <;> exact absurd i (by decide +kernel)
  unfold dq ay aF at g;rw[c [36,123] (by simp),c [36,118] (by simp),c [36,100] (by simp),c [36,125] (by simp),c [36,99] (by simp),c [36,97] (by simp),c [36,112] (by simp),c [36,102] (by simp),c [36,101] (by simp),i]at g;simp only[Bool.or_self,Bool.false_and,Bool.false_eq_true,if_false]at g;split at g
  ·cases g
  ·split at g
   ·cases g
   ·next E =>
    apply E;unfold jy;have:0<=bt T S y b:=by
     unfold bt;cases e:(List.range b).find? (mz T S y) with
     | none =>
      rw[Tn]at e;exact absurd C (e w (Sd.2 r))
     | some m=>show(0:Int)<=(m:Int);omega
    rw[TH this];rfl
end
theorem Fi(c:ByteArray):c∈bE L x m D ↔ ∃i,i<D/\rA x m i=true/\c=(a8 L x (m.getD i 0)).getD 1 ⟨#[]⟩:=by
 unfold bE so;rw[Tw];constructor
 ·rintro ⟨i,d,rfl⟩;obtain⟨a,b⟩:=SD.1 d;exact⟨i,Sd.1 a,b,rfl⟩
 ·rintro ⟨i,a,b,rfl⟩;exact⟨i,SD.2 ⟨Sd.2 a,b⟩,rfl⟩
theorem MU(h:∀j∈m,((aq x j).k.toList == [36,102])=true->(a8 L x j).getD 1 ⟨#[]⟩=tS L ((aq x j).h+1)):∀k,k<=m.length->fH L x m k=bE L x m k:=by
 intro k
 induction k with
 | zero=>intro _;rfl
 | succ k b =>
  intro c;have a:k<m.length:=by omega
  rw[qj,<-b (by omega)];unfold fH rA;rw[Ta a,Tf,SF,RT,RQ a];congr 1;show _=if((aq x m[k]).k.toList == [36,102])=true then [(a8 L x m[k]).getD 1 ⟨#[]⟩] else [];split
  ·next e=>rw[V4,RY e,Vw,h _ (Sj a) e];rfl
  ·next e=>rw[V4,RU e,Vw];rfl
theorem MF(h:N.Pairwise (fun x y=>x≠y)):In N:=by
 intro i j a b;rw[UB]at h;have:=h i j (by omega) b a;rw[RT,RT,RQ (show i<N.length by omega),RQ b,Sp];exact fun e=>this (uk e)
theorem Je(d:w<(aZ L x D).length)(f:b<(aZ L x D).length)(h:(aZ L x D)[b]<(aZ L x D)[w]):b<w:=by
 have a:(aZ L x D).Pairwise (· < ·):=Vu _ UO;rw[UB]at a;by_cases e:b<w
 ·exact e
 ·by_cases c:b=w
  ·subst c;omega
  ·have:=a w b d f (by omega);omega
theorem Ln:y∈rd H w ↔ ∃n s,H[n]?=some s/\(s.kind==2)=true/\fg H n w=true/\y=aL s:=by
 unfold rd pJ;rw[VH];constructor
 ·rintro ⟨n,d,e⟩;unfold ve at e;split at e
  ·next s a =>
   split at e
   ·next h=>exact⟨n,s,a,h.1,h.2,(TU e).symm⟩
   ·cases e
  ·cases e
 ·rintro ⟨n,s,a,b,c,rfl⟩;refine⟨n,Sd.2 (R8.1 a).1,?_⟩;unfold ve;rw[a];simp only;rw[RY ⟨b,c⟩]
section
variable {T:List Tk} {d:Db}
theorem gM.inj(R:gM T d)(a:w<d.Wv.length)(c:b<d.Wv.length)(h:av (ab T) w=av (ab T) b):w=b:=by
 have f:=R.hel.len;rcases Vj w b with e | e | e
 ·have:=gD (S:=ab T) e (by omega);omega
 ·exact e
 ·have:=gD (S:=ab T) e (by omega);omega
theorem gM.ltOf(R:gM T d)(c:w<d.Wv.length)(h:av (ab T) w<av (ab T) b):w<b:=by
 have a:=R.hel.len;rcases Vj w b with e | e | e
 ·exact e
 ·rw[e]at h;omega
 ·have:=gD (S:=ab T) e (by omega);omega
theorem gM.rcOf(R:gM T d){j:Nat}(b:j<(ab T).length)(h:lm (ab T) j=true):∃n,n<d.Wv.length/\av (ab T) n=j:=by
 have a:j∈lp (ab T):=SD.2 ⟨Sd.2 b,h⟩;rw[tP]at a;obtain⟨n,c,e⟩:=Tw.1 a;exact⟨n,by rw[R.hel.len];exact Sd.1 c,e⟩
theorem gM.sget(R:gM T d)(e:d.Wv[w]?=some i):eU (aq (ab T) (av (ab T) w)).k.toList i.kind/\i.label=bN T (aq (ab T) (av (ab T) w))/\i.We=a8 T (ab T) (av (ab T) w):=by
 obtain⟨a,b,c,-⟩:=R.ct w i e;exact⟨a,b,c⟩
theorem gM.use(R:gM T d)(t:∀q,q<T.length->a9 T (ab T) q=0)(G:∀(n:Nat) (s:St),d.Wv[n]?=some s->pK s.kind=true->s.til=0)(A:w<d.Wv.length)(x:ByteArray)(I:(x.toList == [])=false):QM T (ab T) d.Wv w (av (ab T) w) x:=by
 have K:=R.hel.at_ A;have p:=dL T;have i:∀{n:Nat} {s:St},d.Wv[n]?=some s->n<d.Wv.length->(s.kind==1)=false->s.label=x->mz T (ab T) x (av (ab T) n)=true:=fun {n s} c l H C=>by
  obtain⟨r,y,-⟩:=R.sget c;unfold mz;rw[<-y,C,I];simp
 unfold QM;cases u:jo d.Wv x w with
 | some n =>
  right
  obtain⟨s,c,H,o⟩:=wT u;have l:=(R8.1 c).1;have v:s.label=x:=by
   have:=Uo u;unfold mB at this;rw[c]at this;simp only[Bool.and_eq_true]at this;exact uk (by simpa using this.1.1)
  have z:=i c l H v;obtain⟨r,y,-⟩:=R.sget c;have m:n<w:=by
   unfold fg at o;rw[c]at o;simp only[Bool.and_eq_true,decide_eq_true_eq]at o;exact o.1
  have E:=gD (S:=ab T) m (by rw[<-R.hel.len];exact A);have D:bt T (ab T) x (av (ab T) w)=(av (ab T) n:Nat):=by
   apply tG E z;intro j B;cases e:mz T (ab T) x j
   ·rfl
   ·exact(Mp p t (by omega) B e z).elim
  refine⟨n,rfl,l,?_⟩;unfold dM;rw[D,RU (by omega),SO,RY];cases b:pK s.kind
  ·rw[R.held c b A,Sk]at o;rw[o.2,V7]
  ·have:ay (aq (ab T) (av (ab T) n)).k=true:=by
    unfold ay;rw[<-(cn r).2.2.2];exact b
   rw[this,UC]
 | none =>
  left
  refine⟨rfl,?_⟩;unfold dM;split
  ·omega
  ·next g =>
   rw[RU]
   ·omega
   ·intro f;unfold bt at g f;cases e:(List.range (av (ab T) w)).find? (mz T (ab T) x) with
    | none=>rw[e]at g;exact g (by simp)
    | some j =>
     rw[e]at f;simp only[Int.toNat_natCast]at f;have B:=Sd.1 (SU e);have z:=Uo e;obtain⟨a,C⟩:=GS z
     obtain⟨n,l,F⟩:=R.rcOf (j:=j) (by omega) (by
      unfold lm;unfold ay aF at a;simp only[Bool.or_eq_true]at a ⊢;rcases a with (h | h) | (h | h)
      ·exact R4 (RZ h)
      ·exact RZ h
      ·exact R4 (R4 (R4 (RZ h)))
      ·exact R4 (R4 (RZ h)))
     subst F;obtain⟨s,c,r,y,J⟩:=R.get l;have m:=R.ltOf l B;unfold jo at u;rw[Tn]at u;apply u n (Sd.2 l);unfold mB;rw[c];simp only[Bool.and_eq_true];refine⟨⟨by rw[y,C];simp,?_⟩,?_⟩
     ·rw[(cn r).2.2.1];unfold ay aF at a;simp only[Bool.or_eq_true]at a;rcases a with (h | h) | (h | h) <;> (rw[cg h];decide)
     ·cases b:pK s.kind
      ·rw[R.held c b A,TH B];have:ay (aq (ab T) (av (ab T) n)).k=false:=by
        unfold ay;rw[<-(cn r).2.2.2];exact b
       rw[this,Ts]at f;rw[f];rfl
      ·unfold fg;rw[c];simp only;rw[G n s c b,TH m];rfl
theorem gM.apAll(R:gM T d)(f:w<d.Wv.length)(h:In N)(i j:Nat)(a:i<N.length)(b:j<N.length):fk N.length (gq d.Wv w N) i j=dR T (ab T) (N.getD i ⟨#[]⟩) (N.getD j ⟨#[]⟩) (av (ab T) w):=by
 have c:∀x y,dR T (ab T) x y (av (ab T) w)=dR T (ab T) y x (av (ab T) w):=fun x y=>by
  unfold dR;congr 1
  funext j
  unfold Po;have e:(x.toList==y.toList)=(y.toList==x.toList):=by rw[Tu,T0,T0];exact⟨Eq.symm,Eq.symm⟩
  rw[e];cases aJ (bq T (aq (ab T) j).h) x <;> cases aJ (bq T (aq (ab T) j).h) y <;> rfl
 rw[Iv _ _ _ _ _ a b];rcases Vj i j with e | e | e
 ·rw[R.tog f h a b e,Sp.2 (by omega)];rfl
 ·subst e;rw[Vp];unfold dR
  symm
  rw[VY,Uz];apply uj;intro j _;unfold Po;rw[Vp];simp
 ·rw[c,<-R.tog f h b a e,Sp.2 (by omega)];have:xW d.Wv w N d.Wv.length i j=xW d.Wv w N d.Wv.length j i:=by
   unfold xW;congr 1
   funext n
   rw[Vg,Vg,VX ((bH N (Go.Proofs.YtnbhnocdhbcbcaaGreat.symsAt d.Wv n)).contains i)]
  rw[this];rfl
theorem gM.fvar(R:gM T d)(j:QH T (ab T))(f:d.Wv[w]?=some i)(c:(i.kind==2)=true):aL i=tS T ((aq (ab T) (av (ab T) w)).h+1)/\((aq (ab T) (av (ab T) w)).k.toList == [36,102])=true/\(a8 T (ab T) (av (ab T) w)).getD 1 ⟨#[]⟩=tS T ((aq (ab T) (av (ab T) w)).h+1):=by
 have m:=(R8.1 f).1;obtain⟨l,-,b⟩:=R.sget f;have e:((aq (ab T) (av (ab T) w)).k.toList == [36,102])=true:=by rw[<-(cn l).2.1];exact c
 obtain⟨g,a⟩:=j _ (R.hel.at_ m) e;refine⟨?_,e,a⟩;unfold aL;rw[RY ⟨c,by rw[b];exact g⟩,b];exact a
theorem gM.avOf(R:gM T d)(l:QH T (ab T))(j:w<d.Wv.length)(m:b<av (ab T) w)(c:((aq (ab T) b).k.toList == [36,102])=true)(a:aM (ab T) b (av (ab T) w)=true):tS T ((aq (ab T) b).h+1)∈rd d.Wv w:=by
 have p:=R.hel.at_ j;obtain⟨n,o,rfl⟩:=R.rcOf (j:=b) (by omega) (by unfold lm;rw[c];simp);obtain⟨s,f,i,-,-⟩:=R.get o;have g:(s.kind==2)=true:=by rw[(cn i).2.1];exact c
 have e:pK s.kind=false:=by rw[(cn i).2.2.2,cg c,cg c];decide
 rw[Ln];exact⟨n,s,f,g,by rw[R.held f e j,TH m,a];rfl,(R.fvar l f g).1.symm⟩
end
theorem sF.avd{d:Db}(F:sF d):In (rd d.Wv w):=by
 apply MF;unfold rd pJ;rw[List.pairwise_filterMap];refine List.pairwise_lt_range.imp_of_mem (fun {n m} hn hm hnm=>?_);intro x a y b;unfold ve at a b;split at a
 ·next s g =>
  split at a
  ·next l =>
   split at b
   ·next u i =>
    split at b
    ·next o =>
     have j:s.kind=2:=(by simpa using l.1);have k:u.kind=2:=(by simpa using o.1);have r:s.til=0∨m<s.til:=by
      have c:=l.2;have f:=o.2;unfold fg at c f;rw[g]at c;rw[i]at f;simp only[Bool.and_eq_true,Bool.or_eq_true,decide_eq_true_eq,beq_iff_eq]at c f;rcases c.2 with h | h
      ·exact R4 h
      ·exact RZ (by omega)
     have:=F.ds n m s u g i j k hnm r;have p:aL s=vr s:=(by unfold aL vr;rw[RY ⟨by rw[j];rfl,F.fl n s g j⟩]);have q:aL u=vr u:=(by unfold aL vr;rw[RY ⟨by rw[k];rfl,F.fl m u i k⟩]);have a:aL s=x:=TU a;have b:aL u=y:=TU b;rw[<-a,<-b,p,q];intro e;rw[e]at this;simp at this
    ·cases b
   ·cases b
  ·cases a
 ·cases a
theorem NB(d:w<=b)(f:b<=n.length)(h:ik k n y w=true)(c:aM n w b=true):ik k n y b=true:=by
 unfold ik jm at h ⊢;obtain⟨m,a,e⟩:=SQ.1 h;have a:=Sd.1 a;unfold oi at e;simp only[Bool.and_eq_true,Bool.or_eq_true,Bool.not_true,Bool.false_eq_true,or_false]at e;refine mK m (by omega) ?_;unfold oi;rw[e.1,e.2.1,Ea n (by omega) d f e.2.2 c];rfl
theorem L8(d:b<w)(c:((aq n b).k.toList == [36,102])=true)(a:aM n b w=true)(e:tS k ((aq n b).h+1)∈ub k n w):b∈aZ k n w:=by
 refine SD.2 ⟨Sd.2 d,?_⟩;unfold tB;rw[a,c,(GL _ _).2 e];simp
theorem L9(h:b∈aZ k n w):∃a,∃(c:a<(aZ k n w).length),(aZ k n w)[a]=b/\(aZ k n w).getD a 0=b:=by
 obtain⟨a,c,e⟩:=Tg h;exact⟨a,c,e,by rw[RT,RQ c];exact e⟩
theorem Ez(h:rj k n y w b=true):((aq n b).k.toList == [36,102])=true/\tS k ((aq n b).h+1)=y/\aM n b w=true:=by
 unfold rj at h;simp only[Bool.and_eq_true]at h;exact⟨h.1,(wl _ _).1 h.2.1,h.2.2⟩
theorem pU(h:b∈aN H w):∃s,H[b]?=some s/\((s.kind==2)=true∨(s.kind==3)=true)/\fg H b w=true:=by
 unfold aN eu at h;have a:=(SD.1 h).2;unfold np at a;split at a
 ·next s e =>
  rw[Sk]at a;refine⟨s,e,?_,a.1⟩;have c:=a.2;unfold qc at c;split at c
  ·next d=>exact R4 d
  ·exact RZ c
 ·cases a
section
variable {T:List Tk} {d:Db}
theorem gM.rcIs(R:gM T d)(a:w<d.Wv.length):lm (ab T) (av (ab T) w)=true:=by
 have h:av (ab T) w∈lp (ab T):=by
  unfold av;rw[RT,RQ (by rw[<-R.hel.len];exact a)];exact Sj _
 exact(SD.1 h).2
theorem gM.hyE(R:gM T d)(F:sF d)(f:∀q,q<T.length->a9 T (ab T) q=0)(K:w<d.Wv.length):Rf T (ab T) d.Wv (aN d.Wv w):=by
 have E:=R.flo F;have p:=dL T;have G:=R.hyps E K;have hN:=R.hel.at_ K;have b:∀i,i<(aN d.Wv w).length->((aN d.Wv w).map (av (ab T))).getD i 0=av (ab T) ((aN d.Wv w).getD i 0):=fun i a=>by
  rw[RT,Sy,RT,RQ a];rfl
 have g:∀i,i<(aN d.Wv w).length->(aN d.Wv w).getD i 0∈aN d.Wv w:=fun i a=>ux a;have D:∀{m:Nat} {s:St},d.Wv[m]?=some s->d.Wv.getD m zI=s:=fun {m s} h=>by rw[RT,h];rfl
 refine⟨fun i a=>?_,fun i a=>?_,fun i a n=>?_,fun i a n x N S=>?_⟩
 ·obtain⟨s,c,j,-⟩:=pU (g i a);obtain⟨o,-,-⟩:=R.sget c;unfold rA;rw[b i a,D c,<-(cn o).2.1];rcases j with h | h
  ·rw[h];have:s.kind=2:=by simpa using h
   rw[this];rfl
  ·rw[h];have:s.kind=3:=by simpa using h
   rw[this];rfl
 ·obtain⟨s,c,j,-⟩:=pU (g i a);obtain⟨-,-,X⟩:=R.sget c;rw[b i a,D c,X]
 ·obtain⟨s,c,j,-⟩:=pU (g i a);obtain⟨o,-,-⟩:=R.sget c;unfold rA at n;rw[b i a]at n ⊢;rw[<-(cn o).2.1]at n;obtain⟨r,-,B⟩:=R.fvar E c n;rw[D c,r,B]
 ·obtain⟨s,c,j,A⟩:=pU (g i a);obtain⟨o,-,-⟩:=R.sget c;have Z:=(R8.1 c).1;unfold rA at n;rw[b i a]at n N;have t:((aq (ab T) (av (ab T) ((aN d.Wv w).getD i 0))).k.toList == [36,101])=true:=by
   rw[<-(cn o).1];rcases j with h | h
   ·rw[(cn o).2.1,n]at h;cases h
   ·exact h
  have C:pK s.kind=false:=by rw[(cn o).2.2.2,cg t,cg t];decide
  rw[R.held c C K,Sk,Tm]at A;have W:=R.hel.at_ Z;have P:=ld p f _ W (fB t (by decide));rw[Fi]at S;rcases xQ P (by rw[t];simp) N with H | ⟨m,J,Y⟩
  ·exfalso
   obtain⟨k,j,l,rfl⟩:=S;unfold rA at l;rw[b k j]at l H;obtain⟨u,L,-,-⟩:=pU (g k j);have M:=R.hel.at_ (R8.1 L).1;obtain⟨v1,v2⟩:=LK (ld p f _ M (fB l (by decide))) l;have e:(a8 T (ab T) (av (ab T) ((aN d.Wv w).getD k 0))).getD 1 ⟨#[]⟩=tS T ((aq (ab T) (av (ab T) ((aN d.Wv w).getD k 0))).h+1):=v2;rw[e]at H;exact mn p f (by omega) (by omega) H v1
  ·obtain⟨r,Q,B⟩:=Ez Y;have v:=Ea (ab T) (by omega) (by omega) (by omega) B A.2;have L:tS T ((aq (ab T) m).h+1)∈ub T (ab T) (av (ab T) w):=by
    rw[Q];unfold ub kt;refine SB.2 (RZ (Ua.2 ⟨_,SD.2 ⟨Sd.2 A.1,?_⟩,N⟩));unfold xY;rw[t,A.2];rfl
   have z:=L8 (by omega) r v L;obtain⟨k,j,U,O⟩:=L9 z;have y:i<(aZ T (ab T) (av (ab T) w)).length:=(by rw[<-G,Sn];exact a);have V:(aZ T (ab T) (av (ab T) w))[i]=av (ab T) ((aN d.Wv w).getD i 0):=by
    have:=b i a;rw[G,RT,RQ y]at this;exact this
   have I:=Je T (ab T) (av (ab T) w) y j (by rw[U,V];exact J);rw[G,Fi];refine⟨k,I,by unfold rA;rw[O];exact r,?_⟩;rw[O,<-Q];exact(E m (by omega) r).2.symm
theorem gM.py(R:gM T d)(F:sF d)(c:∀q,q<T.length->a9 T (ab T) q=0)(D:w<d.Wv.length):Ra T (ab T) d.Wv w (av (ab T) w) (rd d.Wv w) (gq d.Wv w (rd d.Wv w)):=by
 have C:=R.flo F;have p:=dL T;have hA:=R.hel.at_ D;have hD:∀{m:Nat} {s:St},d.Wv[m]?=some s->d.Wv.getD m zI=s:=fun {m s} h=>by rw[RT,h];rfl
 have f:∀{m:Nat} {s:St},d.Wv[m]?=some s->ni d.Wv m=pK s.kind/\pK s.kind=ay (aq (ab T) (av (ab T) m)).k:=fun {m s} h=>by
  obtain⟨V,-,-⟩:=R.sget h;refine⟨by unfold ni;rw[h],?_⟩;rw[(cn V).2.2.2];rfl
 have K:∀n,n<d.Wv.length->In (yw T (ab T) (av (ab T) n))/\fH T (ab T) (aZ T (ab T) (av (ab T) n)) (aZ T (ab T) (av (ab T) n)).length=yw T (ab T) (av (ab T) n):=fun n a=>by
  have hN:=R.hel.at_ a;have e:fH T (ab T) (aZ T (ab T) (av (ab T) n)) (aZ T (ab T) (av (ab T) n)).length=yw T (ab T) (av (ab T) n):=MU T (ab T) _ (fun j Y t=>(C j (by have:=pW T (ab T) _ j Y;omega) t).2) _ (RV _);refine⟨?_,e⟩;rw[<-e,<-R.vars C a];exact F.vsd
 have l:∀{n:Nat},DT d.Wv w n->∃s,d.Wv[n]?=some s/\n<d.Wv.length/\av (ab T) n<av (ab T) w/\(ay (aq (ab T) (av (ab T) n)).k||aF (aq (ab T) (av (ab T) n)).k)=true/\(pK s.kind=false->aM (ab T) (av (ab T) n) (av (ab T) w)=true):=fun {n} h=>by
  obtain⟨s,g,t,z⟩:=h;have a:=(R8.1 g).1;have Z:n<w:=by
   unfold fg at z;rw[g]at z;simp only[Bool.and_eq_true,decide_eq_true_eq]at z;exact z.1
  refine⟨s,g,a,gD Z (by rw[<-R.hel.len];exact D),?_,fun B=>?_⟩
  ·have M:=R.rcIs a;obtain⟨V,-,-⟩:=R.sget g;rw[(cn V).2.2.1]at t;unfold lm at M;rw[t]at M;unfold ay aF;simp only[Bool.or_eq_true,Bool.false_or]at M ⊢;rcases M with ((h | h) | h) | h
   ·exact RZ (R4 h)
   ·exact RZ (RZ h)
   ·exact R4 (R4 h)
   ·exact R4 (RZ h)
  ·rw[R.held g B D,Sk]at z;exact z.2
 have u:∀{k:ByteArray},(ay k||aF k)=true->bY k=false:=fun {k} t=>by
  unfold ay aF at t;simp only[Bool.or_eq_true]at t;rcases t with (h | h) | (h | h) <;> exact fB h (by decide)
 refine⟨R.apAll D F.avd,fun x hx=>?_,fun n a=>?_,fun n a=>?_,fun n a _=>⟨R.hyE F c a,R.hyps C a⟩,fun n a _=>K n a,fun n a _ i j O Y=>R.apAll a (K n a).1 i j O Y,fun n a=>?_,fun n a o y E hv=>?_,fun n a o=>⟨fun y E=>?_,?_⟩⟩
 ·obtain⟨n,s,g,t,z,rfl⟩:=Ln.1 hx;have a:=(R8.1 g).1;obtain⟨f1,f2,-⟩:=R.fvar C g t;have B:pK s.kind=false:=by rw[show s.kind=2 by simpa using t];rfl
  rw[R.held g B D,Sk,Tm]at z;rw[f1];exact NB (by omega) (by omega) (LK (ld p c _ (R.hel.at_ a) (fB f2 (by decide))) f2).1 z.2
 ·obtain⟨s,g,-⟩:=R.get a;rw[(f g).1,(f g).2]
 ·obtain⟨s,g,-⟩:=R.get a;rw[hD g,(R.sget g).2.2]
 ·obtain⟨s,g,a,A,b,-⟩:=l a;have:=(Pp p c (ab T).length (RV _) _ (R.hel.at_ a) b).1;intro e;rw[e]at this;simp at this
 ·obtain⟨s,g,a,A,b,r⟩:=l a;rw[(f g).1]at o;have r:=r o;have v:=(f g).2;rw[o]at v;rw[<-v,Ts]at b;have U:=R.hel.at_ a;have P:=ld p c _ U (u (by rw[<-v,b];rfl));unfold aF at b;cases N:((aq (ab T) (av (ab T) n)).k.toList == [36,102])
  ·rw[N,Ts]at b;rcases xQ P (by rw[b];simp) E with G | ⟨m,Q,W⟩
   ·exact(mn p c (by omega) (by omega) G hv).elim
   ·obtain⟨I,L,S⟩:=Ez W;rw[<-L];exact R.avOf C D (by omega) I (Ea (ab T) (by omega) (by omega) (by omega) S r)
  ·have hl:=QP P N;have E:y∈bq T (aq (ab T) (av (ab T) n)).h:=E;obtain⟨i,O,e⟩:=Tg E;have H:=pQ T (aq (ab T) (av (ab T) n)).h i O;rw[RT,RQ O]at H;have H:y=tS T ((aq (ab T) (av (ab T) n)).h+i):=(by rw[<-e];exact H);have X:i=0∨i=1:=(by omega);rcases X with rfl | rfl
   ·have G:=Dy P (by rw[<-v];unfold aF;rw[N];rfl);rw[Ui]at H;rw[<-H]at G;exact(mn p c (by omega) (by omega) G hv).elim
   ·rw[H];exact R.avOf C D A N r
 ·obtain⟨s,g,a,A,b,-⟩:=l a;rw[(f g).1,(f g).2]at o;have U:=R.hel.at_ a;have P:=ld p c _ U (u b);rcases xQ P (by rw[o];rfl) E with G | ⟨m,Q,W⟩
  ·right
   cases e:ik T (ab T) y (av (ab T) w)
   ·rfl
   ·exact(mn p c (by omega) (by omega) G e).elim
  ·left
   obtain⟨I,L,S⟩:=Ez W;have J:=L8 Q I S (by rw[L];unfold ub kt;exact SB.2 (R4 E));obtain⟨k,t,e1,e2⟩:=L9 J;rw[Fi];refine⟨k,t,by unfold rA;rw[e2];exact I,?_⟩;rw[e2,<-L];exact(C m (by omega) I).2.symm
 ·obtain⟨s,g,a,A,b,-⟩:=l a;rw[(f g).1,(f g).2]at o;intro Q;have:=Q3 p c (ab T).length (RV _) _ (R.hel.at_ a) o;rw[(GL _ _).2 Q]at this;cases this
end
end Go.Proofs.YtnbhnocdhbcbcaaGreat
