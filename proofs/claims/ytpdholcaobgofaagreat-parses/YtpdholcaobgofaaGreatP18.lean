import Derived.Test.YtpdholcaobgofaaGreatP13
import Derived.Test.YtpdholcaobgofaaGreatP17
namespace Go.Proofs.YtpdholcaobgofaaGreat
open Go.RowKit Tryz
open Value IntKind Ending
set_option linter.all false
set_option maxHeartbeats 0
variable{n:Int}{w b v:Nat}{x:St}(H:List St)(f:Nat)(l:Vy)(k y:Nat)
theorem gi{l:List UInt8}(h:fS l n):(n==3)=(l == [36,101])/\(n==2)=(l == [36,102])/\(n==1)=(l == [36,100])/\uU n=((l == [36,97])||(l == [36,112])):=by (rcases h with ⟨rfl,rfl⟩ | ⟨rfl,rfl⟩ | ⟨rfl,rfl⟩ | ⟨rfl,rfl⟩ | ⟨rfl,rfl⟩ | ⟨rfl,rfl⟩ | ⟨rfl,rfl⟩) <;> decide
theorem Bp(S:List Sm):oe S=(List.range (oe S).length).map (bW S):=by apply WC;grind [oe,bW]
theorem uF{S:List Sm}(b:w=(oe S).length){p q:Nat->Bool}(c:∀j,j<S.length->p j=true->qB S j=true)(d:∀n,n<w->q n=p (bW S n)):((List.range w).filter q).map (bW S)=(List.range S.length).filter p:=by (have a:(List.range S.length).filter p=(oe S).filter p:=by unfold oe;rw[Yh];apply fM;simp_all);grind [Bp,fM]
theorem oP(h:b<=w)(p:Nat->Bool):(List.range w).filter (λj=>decide (j<b)&&p j)=(List.range b).filter p:=by (have e:List.range w=List.range b++(List.range (w-b)).map (b + ·):=by have:=@List.range_add b (w-b);grind);(have a:(List.range b).filter (λj=>decide (j<b)&&p j)=(List.range b).filter p:=by grind [fM]);(have c:((List.range (w-b)).map (b + ·)).filter (λj=>decide (j<b)&&p j)=[]:=by rw[WY];grind);grind
section
variable {T:List Tk} {d:Db}
theorem lk.held(R:lk T d)(a:d.YY[w]?=some x)(c:uU x.Y1=false)(f:b<d.YY.length):je d.YY w b=(decide (bW (ah T) w<bW (ah T) b)&&bB (ah T) (bW (ah T) w) (bW (ah T) b)):=by have i:=(V4.1 a).1;have g:=R.hel.len;unfold je;rw[a];simp only;by_cases h:w<b;{rw[Xo h,Xo (nB h (by omega)),R.hel.til w x a c b h (by omega)]};{(have:¬bW (ah T) w<bW (ah T) b:=by by_cases e:w=b;{rw[e];omega};{have:=nB (S:=ah T) (n:=b) (a:=w) (by omega) (by omega);omega});grind}
theorem lk.get(R:lk T d)(e:w<d.YY.length):∃s,d.YY[w]?=some s/\fS (ay (ah T) (bW (ah T) w)).k.toList s.Y1/\s.Y2=bS T (ay (ah T) (bW (ah T) w))/\s.YH=bE T (ay (ah T) (bW (ah T) w)).h:=by refine⟨d.YY[w],by simp,?_⟩;have⟨a,b,c,_⟩:=R.ct w _ (VI e);exact⟨a,b,c⟩
theorem lk.symsAt(R:lk T d)(a:w<d.YY.length):symsAt d.YY w=bE T (ay (ah T) (bW (ah T) w)).h:=by have⟨s,b,_,_,h⟩:=R.get a;grind [Go.Proofs.YtpdholcaobgofaaGreat.symsAt]
theorem lk.syms(R:lk T d)(b:w<d.YY.length):iI d.YY w=Ch T (ah T) (bW (ah T) w):=by (have a:=R.hel.at_ b;have c:((List.range d.YY.length).filter (EO d.YY w)).map (bW (ah T))=(List.range (bW (ah T) w)).filter (CX (ah T) (bW (ah T) w)):=by rw[<-oP (WO a)];refine uF R.hel.len (λj l h=>?_) (λn g=>?_);{grind [CX,qB]};{have⟨s,i,f,_,_⟩:=R.get g;unfold EO CX;rw[i];simp only;rw[(gi f).1];cases e:((ay (ah T) (bW (ah T) n)).k.toList == [36,101]);{simp};{(have a:uU s.Y1=false:=by rw[(gi f).2.2.2,un e,un e];decide);rw[R.held i a b,WR,WR]}});unfold iI iU Ch nL;rw[R.symsAt b,<-c,List.flatMap_map];congr 1;apply eM;intro n g;exact R.symsAt (by grind)
def FlE(T:List Tk)(S:List Sm):Prop:=∀j,j<S.length->((ay S j).k.toList == [36,102])=true->2<=(bE T (ay S j).h).length/\(bE T (ay S j).h).getD 1 ⟨#[]⟩=tS T ((ay S j).h+1)
theorem lk.hyps(R:lk T d)(F:FlE T (ah T))(b:w<d.YY.length):(aY d.YY w).map (bW (ah T))=ci T (ah T) (bW (ah T) w):=by have a:=R.hel.at_ b;unfold aY gU ci;rw[R.syms b,<-oP (WO a)];refine uF R.hel.len (λj t h=>?_) (λn f=>?_);{grind [uT,qB]};{have⟨s,c,i,_,r⟩:=R.get f;have⟨o,m,u,v⟩:=gi i;unfold pD uT tM;rw[c];simp only;rw[m];cases g:((ay (ah T) (bW (ah T) n)).k.toList == [36,102]);{rw[mt,o];cases e:((ay (ah T) (bW (ah T) n)).k.toList == [36,101]);{simp};{have a:uU s.Y1=false:=(by grind);rw[R.held c a b];simp}};{(have a:uU s.Y1=false:=(by grind);have e:((ay (ah T) (bW (ah T) n)).k.toList == [36,101])=false:=(by grind);have⟨p,q⟩:=F _ (R.hel.at_ f) g;have l:aF s=tS T ((ay (ah T) (bW (ah T) n)).h+1):=by grind [aF]);rw[VO rfl,R.held c a b,l,e,XV,WR,Bool.and_assoc]}}
end
theorem N4(L:List Tk):∀i,i<(l8 L).length->(l8 L)[i]?=L[i]?.map (·.s):=by induction L with|nil=>intro i a;cases a|cons t L b=>grind [l8]
theorem Gr(T:List Tk)(h i:Nat)(a:i<(bE T h).length):(bE T h).getD i ⟨#[]⟩=tS T (h+i):=by grind [bE,N4,tS]
section
variable {T:List Tk} {t:Tk} {d d':Db}
theorem lk.YT(R:lk T d)(E:wn T (ah T) d)(F:uW d)(b:d.YY[w]?=some x)(c:x.Y1=2)(e:x.til=0):bb d.YT (vr x)=true:=by (have j:=(V4.1 b).1;obtain⟨i,-,n,-⟩:=R.ct w x b;have f:uU x.Y1=false:=by rw[c];rfl);(have a:=R.hel.now b f;rw[e]at a;have g:=R.hel.at_ j;have m:((ay (ah T) (bW (ah T) w)).k.toList == [36,102])=true:=by rw[<-(gi i).2.1,c];rfl);rw[E.typ.l,qP,WL];refine⟨bW (ah T) w,Ww.2 ⟨VZ.2 g,a.symm⟩,?_⟩;unfold ML;rw[VO m,vM];have o:=F.fl w x b c;grind [vr,Gr]
theorem uW.same(F:uW d)(b:d'.YY=d.YY)(e:d'.Y1=2->2<=d'.YH.length->bb d'.YT (d'.YH.getD 1 ⟨#[]⟩)=false/\d'.YH.length=2):uW d' :=
 ⟨λn s a=>by rw[b]at a;exact F.fl n s a,λn m s u a c=>by rw[b]at a c;exact F.ds n m s u a c,e⟩
theorem uW.ended(F:uW d)(b:Nat)(p:d'.YY=kL d.YY b)(r:d'.Y1=0):uW d':=by (have q:∀(n:Nat) (s:St),d'.YY[n]?=some s->∃v,d.YY[n]?=some v/\s.Y1=v.Y1/\s.YH=v.YH/\(s.til=v.til∨(v.til=0/\s.til=d.YY.length)):=by grind [uu,oE]);refine⟨λn s e j=>?_,λn m s u e l j k c y=>?_,by omega⟩;{obtain⟨v,f,i,a,-⟩:=q n s e;rw[a];exact F.fl n v f (by omega)};{obtain⟨v,f,i,a,w⟩:=q n s e;obtain⟨x,o,t,g,-⟩:=q m u l;unfold vr;rw[a,g];refine F.ds n m v x f o (by omega) (by omega) c ?_;omega}
theorem uW.more(R:lk T d)(E:wn T (ah T) d)(F:uW d)(u:St)(w:u.Y1=2->u.YH.length=2/\bb d.YT (vr u)=false)(t:d'.YY=d.YY++[u])(v:d'.Y1=0):uW d':=by (have q:∀(n:Nat) (s:St),d'.YY[n]?=some s->(n<d.YY.length/\d.YY[n]?=some s)∨(n=d.YY.length/\s=u):=by grind);refine⟨λn s c b=>?_,λn m s x c p b e f j=>?_,by omega⟩;{rcases q n s c with ⟨-,h⟩ | ⟨-,rfl⟩;{exact F.fl n s h b};omega};{rcases q m x p with ⟨l,i⟩ | ⟨l,rfl⟩;{rcases q n s c with ⟨-,a⟩ | ⟨o,-⟩;{exact F.ds n m s x a i b e f j};{omega}};{rcases q n s c with ⟨-,a⟩ | ⟨o,-⟩;{have k:=R.hel.le n s a;have g:s.til=0:=(by omega);have r:=R.YT E F a b g;grind [vr,bb]};{omega}}}
theorem uW.step(u:xD T d)(r:wn T (ah T) d)(R:lk T d)(F:uW d)(p:Pl)(c:(bD d t.s p).1=0):uW (bD d t.s p).2:=by
 rcases u with ⟨z,j,i,g,q⟩ | ⟨z,j,i,g,q,D,C⟩ | ⟨G,o,B,j,A,L,y,K,g,i,E,q,I⟩
 ·(have e:bD d t.s p=aH d t.s:=by grind [bD]);rw[e]at c ⊢;unfold aH cG dG at *;have f:∀d':Db,d'.YY=d.YY->d'.Y1≠2->uW d':=λd' k v=>F.same k (by omega);(repeat' split)
  all_goals first
   | exact F
   | exact F.ended _ rfl j
   | exact f _ rfl (by grind)
   | exact f _ rfl (by simp only;decide)
   | exact f _ rfl (by simp only;rw[j];decide)
   | exact f _ rfl (by show d.Y1≠2;omega)
 {(have e:bD d t.s p=aV d t.s:=by grind [bD]);rw[e]at c ⊢;have f:∀d':Db,d'.YY=d.YY->d'.YH=d.YH->uW d':=λd' k v=>F.same k (by grind);unfold aV;(repeat' split);all_goals exact f _ rfl rfl};{rw[uM y]at c ⊢;by_cases n:(t.s.toList == [36,46])=true;{rw[VO n]at c ⊢;unfold na at *;split at c;{cases c};{next w => rw[VS w];split at c;{cases c};{next x => rw[VS x];simp only;cases m:((d.Y1==7)||(d.Y1==8));{(simp only[Bool.or_eq_false_iff]at m;have l:(bK d p).YY=d.YY++[⟨d.Y1,d.Y2,d.YH,d.YS,p,0⟩]:=by grind [bK,pn,kj]);(refine uW.more R r F ⟨d.Y1,d.Y2,d.YH,d.YS,p,0⟩ (λa=>?_) l rfl;replace a:d.Y1=2:=a;have b:2<=d.YH.length:=by grind [or]);exact⟨(F.op a b).2,(F.op a b).1⟩};{(have l:(bK d p).YY=d.YY:=by grind [bK,fD]);exact F.same l (by simp)}}}};{rw[VS n]at c ⊢;split;{unfold dj;split <;> exact F.same rfl F.op};{split;{exact F};{split;{exact F.same rfl F.op};{split;{next H => refine F.same rfl (λa b=>?_);grind [bC,fV,bb]};{exact F}}}}}}
theorem lk.flo(R:lk T d)(F:uW d):FlE T (ah T):=by (intro j e f;have a:j∈oe (ah T):=Ww.2 ⟨VZ.2 e,by unfold qB;rw[f];simp⟩;rw[Bp]at a;obtain⟨n,b,rfl⟩:=WG.1 a;have b:n<d.YY.length:=by rw[R.hel.len];grind);(obtain⟨s,g,c,-,k⟩:=R.get b;have i:s.Y1=2:=by have:=(gi c).2.1;grind);have l:=F.fl n s g i;grind [Gr]
end
def QU(t:Tk):Pl:=⟨t.Y6,t.Y7,t.Y8⟩
def wdT(t:Tk):Vx×Pl:=(t.s,QU t)
def zed(T:List Tk)(b z:Nat):List (Vx×Pl):=((T.drop b).take (z-b)).map wdT
structure PfE(T:List Tk)(d:Db):Prop where
 ne:∀q,q<T.length->((tS T q).toList == [])=false
 til:∀(n:Nat) (s:St),d.YY[n]?=some s->uU s.Y1=true->s.til=0
 pr:∀(n:Nat) (s:St),d.YY[n]?=some s->s.Y1=5->s.YS=zed T ((ay (ah T) (bW (ah T) n)).h+(bE T (ay (ah T) (bW (ah T) n)).h).length+1) ((ay (ah T) (bW (ah T) n)).z-1)/\s.Y5=QU (T.getD ((ay (ah T) (bW (ah T) n)).z-1) kR)
 op:d.YS=if d.YL=true then zed T ((fR T (ig T)).2+d.YH.length+1) T.length else []
section
variable {T:List Tk} {t:Tk} {d d':Db}
end
def HeK(l:List St)(a n:Nat):Prop:=∃s,l[n]?=some s/\(s.Y1==1)=false/\je l n a=true
def GdS(l:List St)(a i:Nat)(s:qc):Prop:=(s.Y1=3/\s.YI<i)∨(s.Y1=2/\HeK l a s.YI)
def StG(l:List St)(a:Nat)(L:List qc):Prop:=∀i s,L[i]?=some s->s.Y1=1∨GdS l a i s
structure zeL(l:List St)(a:Nat)(c:oL):Prop where
 n:∀x∈c.Y4,HeK l a x
 t:∀x∈c.YU,x<c.steps.length
 s:StG l a c.steps
 b:c.behind=true->0<c.steps.length
def CV(R:List St)(a:Nat)(vs:Vy)(k i j:Nat):Bool:=(List.range k).any (λn=>wO R a n&&(b9 vs (symsAt R n)).contains i&&(b9 vs (symsAt R n)).contains j)
theorem Il(a:VB)(b:List Bool)(q:Nat)(d:q<b.length):(mC k y a b).getD q false=(b.getD q false||a.any (λc=>y*k+c==q)):=by unfold mC;induction a generalizing b with|nil=>simp|cons m a e=>grind
theorem Ik(b r:VB)(a:List Bool)(q:Nat)(e:q<a.length):(r.foldl (λa c=>mC y c b a) a).getD q false=(a.getD q false||r.any (λc=>b.any (λd=>c*y+d==q))):=by induction r generalizing a with|nil=>simp|cons m r f=>grind [mC,tN,Il]
theorem Iy{a c:Nat}(f:c<w)(g:v<w)(h:a*w+c=b*w+v):a=b/\c=v:=by (have d:(a*w+c) / w=a:=by rw[Ye,Yy (by omega)];simp_all);(have e:(b*w+v) / w=b:=by rw[Ye,Yy (by omega)];simp_all);grind
theorem O0(k i j:Nat)(d:i<l.length)(e:j<l.length):(ee H f l k).getD (i*l.length+j) false=CV H f l k i j:=by have r:=DY d e;induction k with|zero=>grind [CV,ee]|succ k n=>(have c:CV H f l (k+1) i j=(CV H f l k i j||(wO H f k&&(b9 l (symsAt H k)).contains i&&(b9 l (symsAt H k)).contains j)):=by grind [CV]);rw[c,ee];cases p:wO H f k;{grind};{simp only[if_true,Bool.true_and];unfold nZ;rw[Ik _ _ _ _ _ (by grind [mh]),n];congr 1;rw[Xh];simp only[List.any_eq_true,Bool.and_eq_true,List.contains_iff_mem,beq_iff_eq];constructor;{rintro ⟨s,o,t,b,q⟩;obtain⟨m,a⟩:=Wi b;have g:=xi l (symsAt H k) m a.1;grind [Iy]};grind}
theorem NV(a:k<l.length)(b:y<l.length):fU l.length (iy H f l) k y=(!(k==y)&&CV H f l H.length k y):=by grind [fU,iy,O0]
theorem AG{α:Type}(l:VB)(f g:Nat->List α)(h:∀x∈l,f x=g x):l.flatMap f=l.flatMap g:=by induction l with|nil=>rfl|cons a l b=>grind
def nS(l N:List St)(a:Nat):Vy:=((List.range N.length).filter (λj=>EO (l++N) a (l.length+j))).flatMap (symsAt N)
def prL(vs:Vy)(A:Nat->Nat->Bool):List Pr:=(List.range vs.length).flatMap (λi=>((List.range vs.length).filter (λj=>decide (i<j)&&A i j)).map (λj=>(gD vs i,gD vs j)))
theorem zc1:Pv l (iy H f l)=prL l (λi j=>!(i==j)&&CV H f l H.length i j):=by unfold Pv yi prL qq;refine AG _ _ _ (λi a=>?_);have a:=VZ.1 a;congr 1;exact XP (by grind [NV])
section
variable {T:List Tk} {d:Db}
theorem lk.vars(R:lk T d)(F:FlE T (ah T))(g:w<d.YY.length):gy d.YY (aY d.YY w)=kg T (ah T) (ci T (ah T) (bW (ah T) w)) (ci T (ah T) (bW (ah T) w)).length:=by (unfold kg;rw[Wl,<-R.hyps F g];unfold gy;have a:∀n∈aY d.YY w,n<d.YY.length:=by grind [aY,gU]);generalize aY d.YY w=L at a;induction L with|nil=>rfl|cons n L e=>have⟨s,j,c,_,i⟩:=R.get (a n (by simp));rw[List.filterMap_cons,Xw,List.filter_cons];unfold so;rw[j];simp only;rw[(gi c).2.1];cases b:((ay (ah T) (bW (ah T) n)).k.toList == [36,102]);{rw[mt,mt];exact e (by grind)};{(have⟨m,f⟩:=F _ (R.hel.at_ (a n (by simp))) b;have l:aF s=tS T ((ay (ah T) (bW (ah T) n)).h+1):=by unfold aF;rw[VO ⟨by rw[(gi c).2.1];exact b,by grind⟩,i,f]);rw[VO rfl,VO rfl,Xw,<-l];show aF s :: _=_;congr 1;exact e (by grind)}
theorem lk.tog(R:lk T d)(p:w<d.YY.length){i:Vy}(h:wk i)(x:b<i.length)(t:v<i.length)(r:b<v):CV d.YY w i d.YY.length b v=j8 T (ah T) (i.getD b ⟨#[]⟩) (i.getD v ⟨#[]⟩) (bW (ah T) w):=by have E:=R.hel.len;have D:=R.hel.at_ p;have C:=h b v r t;unfold CV j8;rw[Xh,WL,WL];constructor;{(rintro ⟨n,a,e⟩;have a:=VZ.1 a;obtain⟨s,l,j,-,A⟩:=R.get a;simp only[Bool.and_eq_true]at e;obtain⟨⟨c,m⟩,o⟩:=e;rw[zM h x,R.symsAt a]at m;rw[zM h t,R.symsAt a]at o;unfold wO at c;rw[l]at c;simp[Bool.and_eq_true]at c;have y:((ay (ah T) (bW (ah T) n)).k.toList == [36,100])=true:=by rw[<-(gi j).2.2.1];grind);(have g:uU s.Y1=false:=by rw[(gi j).2.2.2,un y,un y];decide);have B:=c.2;rw[R.held l g p,We]at B;refine⟨bW (ah T) n,by grind,?_⟩;grind [apP]};{(rintro ⟨q,u,e⟩;have u:=VZ.1 u;unfold apP at e;simp only[Bool.and_eq_true]at e;obtain⟨c,-,m,o,z⟩:=e;have f:q∈oe (ah T):=Ww.2 ⟨VZ.2 (by omega),by unfold qB;rw[c];simp⟩;rw[Bp]at f;obtain⟨n,a,rfl⟩:=WG.1 f;have a:n<d.YY.length:=by grind);(obtain⟨s,l,j,-,A⟩:=R.get a;have g:uU s.Y1=false:=by rw[(gi j).2.2.2,un c,un c];decide);refine⟨n,VZ.2 a,?_⟩;rw[zM h x,zM h t,R.symsAt a,m,o];unfold wO;rw[l];simp only;rw[(gi j).2.2.1,c,R.held l g p,z,Xo u];rfl}
theorem lk.pairs(R:lk T d)(F:FlE T (ah T))(b:w<d.YY.length)(c:wk (gy d.YY (aY d.YY w))):pH d.YY w=fX T (ah T) (bW (ah T) w):=by (unfold pH fX;rw[zc1,<-R.vars F b];generalize gy d.YY (aY d.YY w)=a at c;unfold prL od lV;apply AG;intro i f;have e:(List.range a.length).filter (λj=>decide (i<j)&&(!(i==j)&&CV d.YY w a d.YY.length i j))=(List.range a.length).filter (λj=>decide (i<j)&&j8 T (ah T) (a.getD i ⟨#[]⟩) (a.getD j ⟨#[]⟩) (bW (ah T) w)):=by apply fM;intro j g;by_cases h:i<j;{have:(i==j)=false:=(by grind);rw[R.tog b c (VZ.1 f) g h,this];simp};grind);rw[e];rfl
def mg(T:List Tk)(S:List Sm)(j:Nat):Vx:=(bE T (ay S j).h).foldl (λs x=>s++⟨#[32]⟩++x) (bS T (ay S j)++⟨#[32]⟩++(ay S j).k)
def tJ(T:List Tk)(S:List Sm)(a:Nat):Vy:=(ci T S a).map (mg T S)++(fX T S a).map jU++[mg T S a]
theorem GZ(L:Vy):∀s:Vx,L.foldl (λt x=>t++(⟨#[32]⟩++x)) s=L.foldl (λs x=>s++⟨#[32]⟩++x) s:=by induction L with|nil=>simp|cons x L a=>intro s;rw[List.foldl_cons,List.foldl_cons,a,ByteArray.append_assoc]
theorem SF{k:Vx}(h:fS k.toList n)(a:n=2∨n=3∨n=4∨n=5):zdY n=k:=by apply uo;generalize k.toList=l at h;rcases a with rfl | rfl | rfl | rfl <;> rcases h with ⟨rfl,h⟩ | ⟨rfl,h⟩ | ⟨rfl,h⟩ | ⟨rfl,h⟩ | ⟨rfl,h⟩ | ⟨rfl,h⟩ | ⟨rfl,h⟩ <;> first | omega | decide +kernel
theorem lk.Y7(R:lk T d)(a:w<d.YY.length)(e:∀s,d.YY[w]?=some s->s.Y1=2∨s.Y1=3∨s.Y1=4∨s.Y1=5):M7 d.YY w=mg T (ah T) (bW (ah T) w):=by have⟨s,g,b,f,c⟩:=R.get a;grind [M7,mg,zbT,SO,SF,GZ]
theorem lk.lines(R:lk T d)(F:FlE T (ah T))(a:w<d.YY.length)(e:wk (gy d.YY (aY d.YY w)))(f:∀s,d.YY[w]?=some s->uU s.Y1=true):A6 d.YY w=tJ T (ah T) (bW (ah T) w):=by unfold A6 tJ;rw[R.pairs F a e,<-R.hyps F a,XO,R.Y7 a (by grind [uU])];congr 2;apply Wz;intro n c;unfold aY gU at c;have b:=VZ.1 (Ww.1 c).1;refine R.Y7 b (λs g=>?_);grind [pD,tM]
theorem lk.frame(R:lk T d)(F:uW d)(b:w<d.YY.length)(a:∀s,d.YY[w]?=some s->uU s.Y1=true):A6 d.YY w=tJ T (ah T) (bW (ah T) w) :=
 R.lines (R.flo F) b F.vsd a
end
end Go.Proofs.YtpdholcaobgofaaGreat
