import Derived.BigQuiet
import Derived.Deep.RegionLaw
import Derived.Test.YtnbhnocdhbcbcaaGreatK17
namespace Go.Proofs.YtnbhnocdhbcbcaaGreat
open Go.RowKit Tryz
open Value IntKind Ending
set_option maxHeartbeats 0
variable{d s:World}{y:Nat}{v:Xt}{c:Hd}{u:Xs}{z0:Xu}(I T:Nat)(f:Xt)(i S:Nat)(l:List Tk)(x:List dj)(t:Xu)(N:Nat)(b:List Sm)(k:Nat)(M:Xv)(D:Xu)(n:Xt)(L H:Nat)
def vx(rec:Nat->Int):Nat->Nat->Xv->Xv
 | 0,_,acc=>acc
 | m+1,b,acc=>vx rec m (rec (b-1)).toNat ((b-1) :: acc)
def fX(P:List dj)(i:Nat):Xv:=vx (dQ P) (bN P i).need i []
theorem N3(c:Nat->Int)(m:Nat):∀b a,(vx c m b a).length=m+a.length:=by
 induction m with
 | zero=>intro b a;simp[vx]
 | succ m d=>intro b a;rw[vx,d];simp;omega
theorem KU:(fX x H).length=(bN x H).need:=by unfold fX;rw[N3];simp
theorem Qh{c:Nat->Int}(k:∀i,c i<=(i:Int))(m:Nat):∀b a i,b<=i->0<=oy c m b->(∀q∈a,q<i)->∀q∈vx c m b a,q<i:=by
 induction m with
 | zero=>intro b a i _ _ h;exact h
 | succ m l =>
  intro b a i n d h q f;rw[oy]at d;rw[vx]at f;by_cases j:b=0
  ·rw[Tr j]at d;omega
  ·rw[Tp j]at d;by_cases g:c (b-1)<0
   ·rw[Tr g]at d;omega
   ·rw[Tp g]at d;have:=k (b-1);refine l _ _ i (by omega) d (fun q f=>?_) q f;rcases Ub.1 f with e | e
    ·omega
    ·exact h q e
theorem NX(h:0<=dQ x H):∀q∈fX x H,q<H:=by
 rw[qx]at h;exact Qh (xk x) _ _ _ H (Tq _) h (fun q a=>by cases a)
theorem Qd(m x:Nat)(L:Xv):(kj (List.replicate (m+1) 0++L)).set m (int i64 x)=kj (List.replicate m 0++x :: L):=by
 unfold kj
 induction m with
 | zero=>simp
 | succ m a=>rw[Wk,Vy,Vn,Vi,a];simp[List.replicate_succ]
theorem J8:madeCells (int i64 0).cells (H*1)=(kj (List.replicate H 0)).toArray:=by
 rw[Xw];apply Array.ext
 ·rw[U7];simp[kj]
 ·intro i a b;have e:(int i64 0).cells=#[int i64 0]:=rfl;simp[madeCells,e,Nat.mod_one,kj]
def oK(w:World)(g:Nat)(L:Xv):Prop:=w.heap[g]?=some (.cells (kj L).toArray 3)
theorem oK.src{L:Xv}(h:oK d y L):sD d (some ⟨y,0,none⟩) L:=by
 intro k x a;refine⟨y,rfl,aj h,?_⟩;rw[ah h];simp[kj,a]
set_option maxRecDepth 100000
theorem KT(y:Int)(v:Xs)(z u:Int)(i:Nat)(w:World)(hl:x.length<=100000000)(hN:ON x)(hi:i<x.length)(hS:di w D 6 lI x)(Q:0<=dQ x i) :
  Calls prog 103 #[agg #[slice D x.length H,int i64 y,string v,int i64 z,int i64 u],int i64 i] w fun e A=>∃g,e=returned (slice (some ⟨g,0,none⟩) (bN x i).need (bN x i).need)/\oK A g (fX x i)/\ae [] w A:=by
 obtain⟨i0,S,U,V,Y⟩:=TZ Bp;have af:=hN i;have m2:=fun w=>dG (P:=prog) w 24 3 i0 _ underlying24 S U (bN x i).need 1 V (by rw[Y];omega) (by omega);obtain⟨mc,k⟩:=bn (madeCells (int i64 0).cells ((bN x i).need*1));have K:Xr (mc=(kj (List.replicate (bN x i).need 0)).toArray):=ci (by rw[<-k.o,J8]);rw[k.o]at m2;obtain⟨W,N⟩:=bn (w.alloc (.cells #[slice D x.length H,int i64 y,string v,int i64 z,int i64 u] 122));have B:=f9 N.o;have f:Xr _:=fI N.o;have HS:Xr _:=hS.XE f.o;obtain⟨p0,-⟩:=od B;have ac:(i:Int)<x.length:=by omega
 obtain⟨g,rfl,R,-,-,q2,-⟩:=di.step HS.o i hi;have HB:Xr _:=B;rw[qx]at Q;have H0:Xr _:=Q;have M:Xr (vx (dQ x) (bN x i).need i []=fX x i):=rfl;generalize (bN x i).need=n at *;generalize fX x i=P at *;have I0:Xr (oK (W.alloc (.cells mc 3)) W.heap.size (List.replicate n 0++[])):=ci (by rw[TY,K.o];exact Tu _ _);clear hS B Q;go_enter func103,ntmps103;go_upto_region 1 with fail
 rw[N.o];go_wp2;clear q2 R p0 m2
 go_loopg [7,8] n (fun ms bv kv wr=>∃(m b:Nat) (L:Xv),m<=n/\ms=m/\bv=int i64 b/\kv=int i64 ((m:Int)-1)/\b<=i/\Xr (0<=oy (dQ x) m b)/\Xr (vx (dQ x) m b L=P)/\Xr (oK wr W.heap.size (List.replicate m 0++L))/\Xr (ae [] W wr))
 ·exact⟨n,i,[],by omega,rfl,rfl,by go_num,by omega,H0,M,I0,(ae.refl _ _).alloc _⟩
 obtain⟨m,b,L,hm,ad,rfl,rfl,hb,a,j,t,G⟩:=hrel;have J:Xr _:=f.o.trans G.o;cases m with
 | zero =>
  have HE:Xr (oK wr W.heap.size P):=by show oK wr W.heap.size P;have:=t.o;rw[<-j.o];simpa [vx] using this
  go_wp2;go_ret;exact⟨W.heap.size,rfl,HE.o,J.o⟩
 | succ q =>
  rw[oy]at a;have l:b≠0:=fun e=>by
   have:=a.o;rw[Tr e]at this;omega
  obtain⟨c,rfl⟩:∃c,b=c+1:=⟨b-1,by omega⟩
  rw[Tp l,UM]at a;have p:¬dQ x c<0:=fun e=>by
   have:=a.o;rw[Tr e]at this;omega
  rw[Tp p]at a;rw[vx,UM]at j;have BR:=G.o.get HB.o (by simp);have u0:=am t.o q;have u1:wr.cell? ⟨W.heap.size,q,none⟩=some (int i64 0):=by
   rw[ah t.o];simp[kj,List.replicate_succ']
  have ai:(q:Int)<(n:Int):=by omega
  have ag:((q:Int)+1-1)=(q:Int):=by omega
  have HC:Xr (∀s,ae [] W s->Calls prog 133 #[agg #[slice (some ⟨g,0,none⟩) x.length H,int i64 y,string v,int i64 z,int i64 u],int i64 c] s fun e A=>e=returned (int i64 (dQ x c))/\ae [] s A):=fun s kx=>uS x _ H y v z u hl hN (c+1) c s (by omega) (by omega) (di.XE HS.o kx);have T:=xk x c;obtain⟨rn,r⟩:∃rn:Nat,dQ x c=rn:=⟨(dQ x c).toNat,by omega⟩
  rw[r]at HC j a T;rw[Ur]at j a;obtain⟨X,O⟩:=bn (wr.setCell ⟨W.heap.size,q,none⟩ (int i64 (c:Int)));have d:Xr (ae [] W X):=by show ae [] W X;rw[<-O.o];exact G.o.sr1 (by simp) _
  have F:Xr (oK X W.heap.size (List.replicate q 0++c :: L)):=by
   show _=_;rw[<-O.o,ab t.o];congr 2;have:=Qd q c L;rw[<-this];simp
  have BX:=d.o.get HB.o (by simp);obtain⟨x0,x1,x2,x3,x4⟩:=od BX;have C:Xr _:=HC.o X d.o;clear r p l;go_upto_region 8 with fail
  rw[O.o];go_wp2_with (go_at_call 133;refine Ts C.o ?_;rintro e w1 ⟨rfl,Z⟩;have I:Xr _:=d.o.trans Z;have E:=(show Xr (oK w1 W.heap.size (List.replicate q 0++c :: L)) from Z.get F.o (by simp));clear Z);go_roundg q
  ·exact⟨q,rn,c :: L,by omega,rfl,rfl,by go_num,by omega,a,j,E,I⟩
  omega
def kY(T:List Tk)(S:List Sm)(a:Nat)(e:Xt):Xt:=e.filter (fun x=>iG T S x a)
theorem LC(h:H<n.length):kY l b k (n.take (H+1))=kY l b k (n.take H)++(if iG l b n[H] k=true then [n[H]] else []):=by
 unfold kY;rw[Up h,UI];congr 1;cases a:iG l b n[H] k
 ·rw[U9 (by rw[a];simp)];rfl
 ·rw[Vm (p:=fun x=>iG l b x k) a];rfl
theorem sw(a:List Tk)(A:Xu)(Y:Nat)(S:List Sm)(z:Xu)(X:Nat)(w:World)(Z:gy w I a A Y S z X)(ok:pA a S T)(hE:ie w D f)(hl:f.length<=900000000) :
  Calls prog 242 #[pointer (some ⟨I,0,none⟩),int i64 T,slice D f.length H] w fun e u=>∃b,e=returned (slice b.ao (kY a S T f).length b.cap)/\ip w u b (aE (kY a S T f)):=by
 have HD:Xr _:=Z;have d:Xr _:=ok.ok;have K:Xr _:=hE;have M:Xr (ip w w ⟨none,0⟩ (aE [])):=⟨Ty _ _ _ _,(by intro k hk;cases hk),ae.refl _ _⟩;obtain⟨iS,V,E,F,G⟩:=TZ kg;clear Z ok hE;go_enter func242,ntmps242;go_wp2
 go_loopg [7,8] f.length (fun g o i wr=>∃(k:Nat) (b:Hd) (O:Xt),k<=f.length/\g=f.length-k/\o=slice b.ao O.length b.cap/\i=int i64 k/\O.length<=k/\Xr (O=kY a S T (f.take k))/\Xr (ip w wr b (aE O)))
 ·exact⟨0,⟨none,0⟩,[],by omega,rfl,rfl,rfl,by simp,by show _=_;simp[kY],M⟩
 obtain⟨k,b,O,hk,hg,rfl,rfl,hO,W,y⟩:=hrel;rcases kn k f.length with ⟨n,ac⟩ | ⟨n,-⟩
 ·obtain⟨Q,rfl,l,B⟩:=(ie.XE K.o y.o.XR) k f[k] (Tn n);have c:Xr _:=LC a S T f k n;rw[<-W.o]at c;have N:Xr _:=Ci I T f[k] a A Y S z X wr (gy.XE HD.o y.o.XR) d.o.m d.o.s d.o.t d.o.v;have J:Xr (∀u,ae [] wr u->u.cell? ⟨Q,k,none⟩=some (string f[k])/\Q<u.heap.size):=fun u kw=>⟨by rw[TO (kw.block Q l (by simp))];exact B,Tw l kw.size⟩
  generalize f[k]=x at *;obtain⟨vb,P⟩:=bn (iG a S x T);rw[P.o]at N c;cases vb
  ·have q:Xr (O=kY a S T (f.take (k+1))):=(by have:=c.o;rw[Tp (by simp),TY]at this;exact this.symm);go_wp2_with (go_at_call 174;refine Ts N.o ?_;rintro e w1 ⟨rfl,r⟩;have j:Xr _:=y.o.XE r;clear r);go_roundg (f.length-(k+1))
   ·exact⟨k+1,b,O,by omega,rfl,rfl,by go_num,by omega,q,j⟩
   omega
  ·have q:Xr (O++[x]=kY a S T (f.take (k+1))):=(by have:=c.o;rw[Tr rfl]at this;exact this.symm);(go_upto_region 7 with (go_at_call 174;refine Ts N.o ?_;rintro e w1 ⟨rfl,r⟩));have j:Xr _:=y.o.XE r;obtain⟨d0,d1⟩:=J.o w1 r;have U:=j.o.X9;have R:(aE O).n<=900000000:=(by show O.length<=_;omega);clear r B l;go_wp2_with (at_builtin;refine cD _ rfl (.tmp 24) (.tmp 29) 61 rfl iS (string ⟨#[]⟩) 16 b (aE O) [string x] underlying61 V E F G rfl TR rfl U R (by omega) rfl rfl (by simp[Value.oneCell']) ?_;intro h5 w5 p C;rw[dX]at p;have L:Xr _:=j.o.XO C p;clear p C);go_roundg (f.length-(k+1))
   ·exact⟨k+1,h5,O++[x],by omega,rfl,by simp[aE],by go_num,by simp;omega,q,L⟩
   omega
 ·have e:k=f.length:=by omega
  subst e;have q:Xr (kY a S T f=O):=ci (by rw[W.o,UO]);go_wp2;go_ret;exact⟨b,by rw[q.o];rfl,by rw[q.o];exact y.o⟩
def Bd(T:List Tk)(S:List Sm)(a:Nat)(Y:Xt)(x:Xs):Bool:=Y.all (fun y=>eB T S x y a)
def qA(T:List Tk)(S:List Sm)(a:Nat)(E F:Xt):Bool:=(kY T S a E).all (Bd T S a (kY T S a F))
theorem Hw{p:Xs->Bool}(h:H<v.length)(a:p v[H]=false):v.all p=false:=by
 rw[Wr];exact⟨v[H],TP h,by rw[a];simp⟩
theorem CC{p:Xs->Bool}(c:y=v.length)(h:∀k (a:k<v.length),k<y->p v[k]=true):v.all p=true:=by
 rw[Uw];intro x b;obtain⟨k,a,e⟩:=Uy b;rw[<-e];exact h k a (by omega)
theorem AB:(kY l b k n).length<=n.length:=U3 _ _
theorem JD(A l:Xu)(cE Z:Nat)(a:List Tk)(r:Xu)(L:Nat)(S:List Sm)(q:Xu)(K:Nat)(w:World)(M:gy w I a r L S q K)(O:pA a S T)(hE:ie w A f)(hF:ie w l n)(hl:f.length<=900000000)(af:n.length<=900000000) :
  Calls prog 215 #[pointer (some ⟨I,0,none⟩),int i64 T,slice A f.length cE,slice l n.length Z] w fun e J=>e=returned (bool (qA a S T f n))/\ae [] w J:=by
 have HD:Xr _:=M;have V:Xr _:=O;have F:Xr _:=sw I T f A cE a r L S q K w M O hE hl;have G:Xr (∀d,ae [] w d->Calls prog 242 #[pointer (some ⟨I,0,none⟩),int i64 T,slice l n.length Z] d fun e J=>∃h',e=returned (slice h'.ao (kY a S T n).length h'.cap)/\ip d J h' (aE (kY a S T n))):=fun d N=>sw I T n l Z a r L S q K d (M.XE N) O (hF.XE N) af;have HR:Xr (qA a S T f n=(kY a S T f).all (Bd a S T (kY a S T n))):=rfl;have an:=AB a S T f;have ar:=AB a S T n;generalize kY a S T f=X at *;generalize kY a S T n=Y at *;clear M O hE hF;go_enter func215,ntmps215;go_upto_region 2 with (go_at_call 242;refine Ts F.o ?_;rintro e w1 ⟨h1,rfl,P⟩)
 have H:Xr _:=G.o w1 P.XR;go_upto_region 3 with (go_at_call 242;refine Ts H.o ?_;rintro e w2 ⟨h2,rfl,Q⟩)
 have HX:Xr _:=(P.X9.srcX.XE Q.XR);have HY:Xr _:=Q.X9.srcX;have v:Xr _:=P.XR.trans Q.XR;clear P Q F G H;obtain⟨a1,c1⟩:=h1;obtain⟨a2,c2⟩:=h2;go_wp2
 go_loopg [11] X.length (fun g i wr=>∃k:Nat,k<=X.length/\g=X.length-k/\i=int i64 k/\Xr (∀j (s:j<X.length),j<k->Bd a S T Y X[j]=true)/\Xr (ae [] w2 wr))
 ·exact⟨0,by omega,rfl,rfl,(fun j _ s=>by omega),ae.refl _ _⟩
 obtain⟨k,hk,hg,rfl,HN,HK⟩:=hrel;rcases kn k X.length with ⟨B,ad⟩ | ⟨B,-⟩
 ·obtain⟨gX,eX,ac,qX⟩:=HX.o k X[k] (Tn B);replace eX:a1=some ⟨gX,0,none⟩:=eX;subst eX;have R:Xr (Bd a S T Y X[k]=false->qA a S T f n=false):=fun h=>by rw[HR.o];exact Hw k B h
  have U:Xr (Bd a S T Y X[k]=true->∀j (s:j<X.length),j<k+1->Bd a S T Y X[j]=true):=fun h j s h2=>by
   by_cases e:j=k
   ·subst e;exact h
   ·exact HN.o j s (by omega)
  generalize X[k]=x at *;go_wp2
  go_loopg [12] Y.length (fun g i wr=>∃m:Nat,m<=Y.length/\g=Y.length-m/\i=int i64 m/\Xr (∀j (s:j<Y.length),j<m->eB a S x Y[j] T=true)/\Xr (ae [] w2 wr))
  ·exact⟨0,by omega,rfl,rfl,(fun j _ s=>by omega),HK⟩
  obtain⟨m,hm,ai,rfl,E,b⟩:=hrel;rcases kn m Y.length with ⟨c,ag⟩ | ⟨c,-⟩
  ·obtain⟨gY,eY,al,qY⟩:=(ie.XE HY.o b.o) m Y[m] (Tn c);replace eY:a2=some ⟨gY,0,none⟩:=eY;subst eY;have av:wr.cell? ⟨gX,k,none⟩=some (string x):=(by rw[TO (b.o.block gX ac (by simp))];exact qX);have C:Xr (∀d,ae [] wr d->Calls prog 95 #[pointer (some ⟨I,0,none⟩),string x,string Y[m],int i64 T] d fun e J=>e=returned (bool (eB a S x Y[m] T))/\ae [] d J):=fun d N=>xe I T x Y[m] a r L S q K d (gy.XE HD.o ((v.o.trans b.o).trans N)) V.o;have t:Xr (eB a S x Y[m] T=false->Bd a S T Y x=false):=fun h=>Hw (p:=fun y=>eB a S x y T) m c h;have u:Xr (eB a S x Y[m] T=true->∀j (s:j<Y.length),j<m+1->eB a S x Y[j] T=true):=fun h j s h2=>by
    by_cases e:j=m
    ·subst e;exact h
    ·exact E.o j s (by omega)
   generalize Y[m]=y at *;obtain⟨ap,W⟩:=bn (eB a S x y T);rw[W.o]at C t u;(go_upto_region 9 with fail);go_region_with (go_at_call 95;refine(C.o _ (by exact(ae.refl [] wr).drew)).mono ?_;rintro e w3 ⟨rfl,k3⟩)
   all_goals
    have D:Xr _:=(b.o.drew).trans k3;cases ap
    ·have z:Xr _:=R.o (t.o rfl);go_wp2;go_ret;exact⟨aF z.o.symm,v.o.trans D.o⟩
    ·have z:Xr _:=u.o rfl;go_wp2;go_roundg (Y.length-(m+1))
     ·exact⟨m+1,by omega,rfl,by go_num,z,D⟩
     omega
  ·have e:m=Y.length:=(by omega);have z:Xr _:=U.o (CC e E.o);have ag:¬(m:Int)<Y.length:=(by omega);go_wp2;go_roundg (X.length-(k+1))
   ·exact⟨k+1,by omega,rfl,by go_num,z,b⟩
   omega
 ·have e:k=X.length:=by omega
  have z:Xr (qA a S T f n=true):=ci (by rw[HR.o];exact CC e HN.o);have ad:¬(k:Int)<X.length:=by omega
  go_wp2;go_ret;exact⟨aF z.o.symm,v.o.trans HK.o⟩
structure Sl where
 ao:Xu
 cap:Nat
 L:Xt
def Gr(s:Sl):List Value:=[slice s.ao s.L.length s.cap]
theorem wU(s:Sl):(Gr s).length=1:=rfl
def l5(A:List Sl):eR:=lG 61 1 Gr A
theorem rJ(L:List Sl)(x:Sl):(⟨(l5 L).e,(l5 L).size,(l5 L).n+1,(l5 L).xs++Gr x⟩:eR)=l5 (L++[x]):=iA _ _ _ _ _
structure qn(w:World)(s:Sl):Prop where
 src:∀(k:Nat) (x:Xs),s.L[k]?=some x->∃g o,s.ao=some ⟨g,o,none⟩/\g<w.heap.size/\w.cell? ⟨g,o+k,none⟩=some (string x)
 nil:s.ao=none->s.L.length=0/\s.cap=0
 le:s.L.length<=s.cap
theorem qn.XE{b:Sl}(h:qn d b)(k:ae [] d s):qn s b :=
 ⟨fun j x f=>by
  obtain⟨g,o,e,a,c⟩:=h.src j x f;exact⟨g,o,e,Tw a k.size,by rw[TO (k.block g a (by simp))];exact c⟩,h.nil,h.le⟩
def pX(w:World)(A:List Sl):Prop:=∀s∈A,qn w s
theorem pX.XE{A:List Sl}(h:pX d A)(k:ae [] d s):pX s A:=fun b a=>(h b a).XE k
theorem Jj:(⟨k,L,none⟩:Addr).add H=⟨k,L+H,none⟩:=by
 simp only[Addr.add];split
 ·next h=>subst h;rfl
 ·rfl
theorem qn.cells{s:Sl}(h:qn d s):∀b,s.ao=some b->∀j u,(dL s.L)[j]?=some u->d.cell? (b.add j)=some u:=by
 intro b e j u a;rw[dL,Ua]at a;cases f:s.L[j]? with
 | none=>rw[f]at a;cases a
 | some x =>
  rw[f]at a;cases a
  obtain⟨g,o,i,-,c⟩:=h.src j x f;rw[e]at i;cases i
  rw[Jj];exact c
theorem ip.sl(a:ip d s c (aE v)):qn s ⟨c.ao,c.cap,v⟩ :=
 ⟨fun k x i=>by
  obtain⟨g,e,f,b⟩:=a.X9.srcX k x i;exact⟨g,0,e,f,by rw[Vr];exact b⟩,a.none,a.le⟩
def nj(V:Xt)(x:Xs):Nat:=V.findIdx (fun y=>(y.toList==x.toList))
def vq(V:Xt)(A:List Xt)(x:Xs):Xt:=if nj V x<V.length then A.getD (nj V x) [] else [x]
def ed(V:Xt)(A:List Xt)(e:Xt):Xt:=e.flatMap (vq V A)
theorem Po(c:y<v.length)(h:(v[y].toList==u.toList)=true)(b:∀j (a:j<v.length),j<y->(v[j].toList==u.toList)=false):nj v u=y:=by
 unfold nj;rw[List.findIdx_eq c];exact⟨h,fun j a=>b j (by omega) a⟩
theorem M5(d:y=v.length)(b:∀j (a:j<v.length),j<y->(v[j].toList==u.toList)=false):nj v u=v.length:=by
 unfold nj;rw[List.findIdx_eq_length];intro f c;obtain⟨j,a,e⟩:=Uy c;rw[<-e];exact b j a (by omega)
theorem NI(A:List Xt)(e:Xt)(k:Nat)(h:k<e.length):ed n A (e.take (k+1))=ed n A (e.take k)++vq n A e[k]:=by
 unfold ed;rw[Up h,U4];simp
def Tg:Sl:=⟨none,0,[]⟩
def gQ(A:List Sl)(i:Nat):Sl:=A.getD i Tg
theorem IU(A:List Sl)(i:Nat)(h:i<A.length):A[i]?=some (gQ A i):=by
 unfold gQ;rw[To,Tn h];rfl
theorem ko(A:List Sl)(i:Nat)(h:i<A.length):gQ A i∈A:=U0 (IU A i h)
theorem di.sl{A:List Sl}(h:di d z0 1 Gr A)(k:Nat)(b:k<A.length):∃g,z0=some ⟨g,0,none⟩/\g<d.heap.size/\d.cell? ⟨g,k,none⟩=some (slice (gQ A k).ao (gQ A k).L.length (gQ A k).cap):=by
 obtain⟨g,e,a,c⟩:=h k _ (IU A k b);refine⟨g,e,a,?_⟩;have:=c 0 _ rfl;simpa using this
theorem xV(A:List Sl)(k:Nat)(h:k<A.length):(A.map (·.L)).getD k []=(gQ A k).L:=by
 unfold gQ;rw[To,To,Ua,Tn h];rfl
theorem DR(A:List Sl)(t:Xu)(cA:Nat)(E:Xt)(ac:Xu)(cE:Nat)(w:World)(hV:ie w D f)(hA:di w t 1 Gr A)(af:pX w A)(bf:f.length<=A.length)(bd:A.length<=100000)(hE:ie w ac E)(be:E.length<=10000)(ag:∀s∈A,s.L.length<=10000) :
  Calls prog 180 #[agg #[slice D f.length H,slice t A.length cA],slice ac E.length cE] w fun e p=>∃c,e=returned (slice c.ao (ed f (A.map (·.L)) E).length c.cap)/\ip w p c (aE (ed f (A.map (·.L)) E)):=by
 obtain⟨W,HW⟩:=bn (w.alloc (.cells #[slice D f.length H,slice t A.length cA] 271));have BW:=f9 HW.o;have S:Xr _:=fI HW.o;have HB:Xr _:=BW;have HV:Xr _:=hV;have HA:Xr _:=hA;have av:Xr _:=af;have HE:Xr _:=hE;have a1:Xr _:=ag;obtain⟨iS,an,B,C,F⟩:=TZ kg;have V:Xr (([]:Xt)=ed f (A.map (·.L)) (E.take 0)):=ci (by simp[ed]);obtain⟨M,T⟩:=bn (A.map (·.L));rw[T.o]at V ⊢;have a0:Xr (∀k,k<A.length->M.getD k []=(gQ A k).L):=fun k hk=>by rw[<-T.o];exact xV A k hk
 clear hV hA af hE ag;have ax:Xr (∀wr,ae [] w wr->wr.heap[w.heap.size]?=W.heap[w.heap.size]?->wr.cell? ⟨w.heap.size,0,none⟩=some (slice D f.length H)/\wr.cell? ⟨w.heap.size,1,none⟩=some (slice t A.length cA)/\w.heap.size<wr.heap.size):=fun wr _ e=>by
  rw[HB.o]at e;exact⟨by rw[ah e];rfl,by rw[ah e];rfl,aj e⟩
 go_enter func180,ntmps180;go_upto_region 1 with fail
 rw[HW.o];go_wp2
 go_loopg [5,6] E.length (fun g o i wr=>∃(k:Nat) (c:Hd) (O:Xt),k<=E.length/\g=E.length-k/\o=slice c.ao O.length c.cap/\i=int i64 k/\O.length<=10000*k/\Xr (O=ed f M (E.take k))/\Xr (ip W wr c (aE O)))
 ·exact⟨0,⟨none,0⟩,[],by omega,rfl,rfl,rfl,by simp,V,⟨Ty _ _ _ _,(by intro k hk;cases hk),ae.refl _ _⟩⟩
 obtain⟨k,c,O,hk,hg,rfl,rfl,hO,HO,Y⟩:=hrel;rcases kn k E.length with ⟨Q,bl⟩ | ⟨Q,-⟩
 ·obtain⟨gE,rfl,al,a2⟩:=HE.o k E[k] (Tn Q);have K:Xr _:=NI f M E k Q;rw[<-HO.o]at K;have aT:Xr (∀p,ae [] w p->p.cell? ⟨gE,k,none⟩=some (string E[k])/\gE<p.heap.size):=fun p kw=>⟨by rw[TO (kw.block gE al (by simp))];exact a2,Tw al kw.size⟩
  generalize E[k]=x at *;have X:Xr (vq f M x=if nj f x<f.length then M.getD (nj f x) [] else [x]):=rfl;go_wp2
  go_loopg [7] (f.length) (fun g i wr=>∃q:Nat,q<=f.length/\g=f.length-q/\i=int i64 q/\Xr (∀j (hj:j<f.length),j<q->(f[j].toList==x.toList)=false)/\Xr (ip W wr c (aE O)))
  ·exact⟨0,by omega,rfl,rfl,(fun j _ hj=>by omega),Y⟩
  obtain⟨q,hq,bj,rfl,J,l⟩:=hrel;have d:Xr _:=S.o.trans l.o.XR;have az:Xr _:=(l.o.XR.get HB.o (by simp));obtain⟨b0,b1,bg⟩:=ax.o wr d.o (by rw[az.o,HB.o]);obtain⟨d0,d1⟩:=aT.o wr d.o;rcases kn q f.length with ⟨v,a6⟩ | ⟨v,-⟩
  ·obtain⟨gV,eV,bk,bc⟩:=(ie.XE HV.o d.o) q f[q] (Tn v);subst eV;have Z:Xr ((f[q].toList==x.toList)=true->nj f x=q):=fun h=>Po v h J.o;have U:Xr ((f[q].toList==x.toList)=false->∀j (hj:j<f.length),j<q+1->(f[j].toList==x.toList)=false):=fun h j hj h2=>by
    by_cases e:j=q
    ·subst e;exact h
    ·exact J.o j hj (by omega)
   generalize f[q]=y at *;cases hy:(y.toList==x.toList)
   ·have HM:Xr _:=U.o hy;(go_upto_region 6 with fail);go_quiet (fail);have a:Xr _:=l.o.XE ((ae.refl [] wr).drewN nq);go_wp2;go_roundg (f.length-(q+1))
    ·exact⟨q+1,by omega,rfl,by go_num,HM,a⟩
    omega
   ·have ap:=Z.o hy;have u:q<A.length:=(by omega);have ba:(q:Int)<A.length:=(by omega);obtain⟨gA,eA,ai,ad⟩:=di.sl (di.XE HA.o d.o) q u;subst eA;have N:Xr _:=(pX.XE av.o d.o) (gQ A q) (ko A q u);have a7:=a1.o (gQ A q) (ko A q u);have r:Xr (O++(gQ A q).L=ed f M (E.take (k+1))):=by
     show _=_;rw[K.o,X.o,ap,Tr v,a0.o q u]
    have aS:Xr (∀p,ae [] wr p->p.cell? ⟨gA,q,none⟩=some (slice (gQ A q).ao (gQ A q).L.length (gQ A q).cap)/\gA<p.heap.size):=fun p kw=>⟨by rw[TO (kw.block gA ai (by simp))];exact ad,Tw ai kw.size⟩
    clear ap;generalize gQ A q=s at *;obtain⟨ar,G,sL⟩:=s;simp only at ad N a7 r aS;(go_upto_region 6 with fail);go_quiet (fail);have R:=(ae.refl [] wr).drewN nq;have a:Xr _:=l.o.XE R;have z:Xr _:=qn.XE N.o R;have a4:Xr _:=z.o.cells;have a5:Xr (ar=none->sL.length=0/\G=0):=z.o.nil;have P:=a.o.X9;clear R N;go_wp2_with (at_builtin;refine fh _ rfl (.tmp 38) (.tmp 43) 61 rfl iS (string ⟨#[]⟩) 16 c (aE O) underlying61 an B C F rfl TR rfl P ar sL.length G (dL sL) rfl (by simp[aE,dL]) a5.o a4.o (mM sL) (by simp only[aE];omega) (by omega) ?_;intro h5 w5 b m;rw[D0]at b;have I:Xr _:=a.o.XO m b;clear b m);go_roundg (E.length-(k+1))
    ·exact⟨k+1,h5,O++sL,by omega,rfl,by simp[aE],by go_num,by simp;omega,r,I⟩
    omega
  ·have eq:q=f.length:=(by omega);have a6:decide ((q:Int)<f.length)=false:=UY (by omega);have r:Xr (O++[x]=ed f M (E.take (k+1))):=by
    show _=_;rw[K.o,X.o,M5 eq J.o,Tp (by omega)]
   (go_upto_region 6 with fail);go_quiet (fail);have R:=(ae.refl [] wr).drewN nq;have a:Xr _:=l.o.XE R;have P:=a.o.X9;have a3:(aE O).n<=900000000:=(by show O.length<=_;omega);clear R;go_wp2_with (at_builtin;refine cD _ rfl (.tmp 45) (.tmp 50) 61 rfl iS (string ⟨#[]⟩) 16 c (aE O) [string x] underlying61 an B C F rfl TR rfl P a3 (by omega) rfl rfl (by simp[Value.oneCell']) ?_;intro h5 w5 b m;rw[dX]at b;have I:Xr _:=a.o.XO m b;clear b m);go_roundg (E.length-(k+1))
   ·exact⟨k+1,h5,O++[x],by omega,rfl,by simp[aE],by go_num,by simp;omega,r,I⟩
   omega
 ·have e:k=E.length:=by omega
  subst e;have HM:Xr (ed f M E=O):=ci (by rw[HO.o,UO]);go_wp2;go_ret;exact⟨c,by rw[HM.o];rfl,by rw[HM.o];exact Y.o.base S.o⟩
def so(S:List Sm)(hs:Xv)(i:Nat):Bool:=((aq S (hs.getD i 0)).k.toList == [36,102])
def s9(S:List Sm)(hs:Xv)(k:Nat):Xv:=(List.range k).filter (so S hs)
def bb(T:List Tk)(S:List Sm)(j:Nat):Xt:=bB T (aq S j).h
def bL(T:List Tk)(S:List Sm)(hs:Xv)(k:Nat):Xt:=(s9 S hs k).map (fun i=>(bb T S (hs.getD i 0)).getD 1 ⟨#[]⟩)
def bu(S:List Sm)(hs:Xv)(M:List Xt)(k:Nat):List Xt:=(s9 S hs k).map (fun i=>(M.getD i []).drop 1)
theorem KE:s9 b M (H+1)=s9 b M H++(if so b M H=true then [H] else []):=fZ _ _
theorem Fp:(prog.info? 61).map (fun i=>(i.zero,i.size,i.bytes))=some (some (slice none 0 0),1,24):=by kernel_rfl
structure LP(w wr:World)(V:Xt)(hv:Hd)(B:List Sl)(hb:Hd):Prop where
 r:wr.heap[w.heap.size]?=some (.cells #[slice none 0 0,slice none 0 0] 271)
 c:wr.heap[w.heap.size+1]?=some (.cells #[slice hv.ao V.length hv.cap,slice hb.ao B.length hb.cap] 271)
 v:aB wr hv (aE V)
 b:aB wr hb (l5 B)
 fv:∀k,hv.XS=some k->w.heap.size+1<k
 fb:∀k,hb.XS=some k->w.heap.size+1<k
 ap:∀k,hv.XS=some k->hb.XS≠some k
 s:pX w B
 XR:ae [] w wr
section
variable {w wr w5:World} {V V':Xt} {hv hb h5:Hd} {B B':List Sl}
theorem LP.XE(a:LP w wr V hv B hb)(k:ae [] wr w5):LP w w5 V hv B hb :=
 ⟨k.get a.r (by simp),k.get a.c (by simp),a.v.XE k,a.b.XE k,a.fv,a.fb,a.ap,a.s,a.XR.trans k⟩
theorem De(f:∀k,c.XS=some k->y<k)(b:y<wr.heap.size)(g:bq wr w5 c h5):∀k,h5.XS=some k->y<k:=fun k a=>by
 rcases g.XS with e | ⟨q,e,d⟩
 ·exact f k (by rw[<-e];exact a)
 ·rw[e]at a;cases a;omega
theorem xK{h o:Hd}{r:eR}(c:∀k,h.XS=some k->o.XS≠some k)(d:aB wr o r)(g:bq wr w5 h h5):∀k,h5.XS=some k->o.XS≠some k:=fun k b a=>by
 rcases g.XS with e | ⟨q,e,f⟩
 ·exact c k (by rw[<-e];exact b) a
 ·rw[e]at b;cases b;have:=d.lt a;omega
theorem LP.addV(a:LP w wr V hv B hb)(g:bq wr w5 hv h5)(o:aB w5 h5 (aE V')){m:Nat}(f:m=V'.length):LP w (w5.setCell ⟨w.heap.size+1,0,none⟩ (slice h5.ao m h5.cap)) V' h5 B hb:=by
 subst f;have n:∀q,q<=w.heap.size+1->q∉hv.XS.toList:=fun q d f=>by have:=a.fv q (aQ f);omega
 have u:=aj a.c;have x:=g.XR.get a.r (n _ (by omega));have p:=g.XR.get a.c (n _ (by omega));have l:=De a.fv u g;have j:aB w5 hb (l5 B):=g.beside a.b (fun k t e=>a.ap k e t);have i:ae [w.heap.size+1] w5 (w5.setCell ⟨w.heap.size+1,0,none⟩ (slice h5.ao V'.length h5.cap)):=(ae.refl _ _).sl1 _;have v:ae [] w w5:=qH g.XR (fun q d=>by have:=a.fv q (aQ d);omega) a.XR;exact⟨i.get x (by simp),by rw[ab p];rfl,o.XJ (fun q d=>i.block q (o.lt d) (by simp;have:=l q d;omega)),j.XJ (fun q d=>i.block q (j.lt d) (by simp;have:=a.fb q d;omega)),l,a.fb,xK a.ap a.b g,a.s,v.sr1 (by simp) _⟩
theorem LP.addB(a:LP w wr V hv B hb)(g:bq wr w5 hb h5)(o:aB w5 h5 (l5 B'))(s:pX w B'){m:Nat}(i:m=B'.length):LP w (w5.setCell ⟨w.heap.size+1,1,none⟩ (slice h5.ao m h5.cap)) V hv B' h5:=by
 subst i;have n:∀q,q<=w.heap.size+1->q∉hb.XS.toList:=fun q d i=>by have:=a.fb q (aQ i);omega
 have u:=aj a.c;have y:=g.XR.get a.r (n _ (by omega));have t:=g.XR.get a.c (n _ (by omega));have l:=De a.fb u g;have p:aB w5 hv (aE V):=g.beside a.v (fun k e b=>a.ap k e b);have j:ae [w.heap.size+1] w5 (w5.setCell ⟨w.heap.size+1,1,none⟩ (slice h5.ao B'.length h5.cap)):=(ae.refl _ _).sl1 _;have x:ae [] w w5:=qH g.XR (fun q d=>by have:=a.fb q (aQ d);omega) a.XR;have f:=xK (h:=hb) (o:=hv) (fun k e b=>a.ap k b e) a.v g;exact⟨j.get y (by simp),by rw[ab t];rfl,p.XJ (fun q d=>j.block q (p.lt d) (by simp;have:=a.fv q d;omega)),o.XJ (fun q d=>j.block q (o.lt d) (by simp;have:=l q d;omega)),a.fv,l,fun k e b=>f k b e,s,x.sr1 (by simp) _⟩
end
theorem LB{e f:Value}(h:d.heap[y]?=some (.cells #[e,f] 271))(a b:Value) :
  (d.setCell ⟨y,0,none⟩ a).cell? ⟨y,0,none⟩=some a/\((d.setCell ⟨y,0,none⟩ a).setCell ⟨y,1,none⟩ b).cell? ⟨y,1,none⟩=some b:=by
 have c:=ab h 0 a;have g:=ab c 1 b;exact⟨by rw[ah c];rfl,by rw[ah g];rfl⟩
theorem qn.tail{o n:Nat}(a:qn d ⟨some ⟨y,o,none⟩,n,v⟩):qn d ⟨some ⟨y,o+1,none⟩,n-1,v.drop 1⟩:=by
 have b:=a.le;simp only at b;refine⟨fun k x f=>?_,fun h=>(by cases h),(by simp;omega)⟩;simp only[List.getElem?_drop]at f;obtain⟨i,j,e,g,c⟩:=a.src (1+k) x f;cases e
 exact⟨y,o+1,rfl,g,by rw[show o+1+k=o+(1+k) by omega];exact c⟩
theorem qn.none0(h:z0=none->y=0):qn d ⟨z0,y,[]⟩:=⟨fun k x a=>by simp at a,fun e=>⟨rfl,h e⟩,Uc _⟩
theorem KP(a:Xv)(bj:Xu)(cH:Nat)(A:List Sl)(bg:Xu)(cA:Nat)(w:World)(hD:gy w i l t N b D H)(ok:pA l b S)(hH:sD w bj a)(y:∀j∈a,j<S)(cB:a.length<=10000)(hA:di w bg 1 Gr A)(bo:pX w A)(cz:a.length<=A.length)(hF:∀b1,b1<a.length->so b a b1=true->1<(bb l b (a.getD b1 0)).length)(hN:∀s∈A,0<s.L.length) :
  Calls prog 178 #[pointer (some ⟨i,0,none⟩),slice bj a.length cH,slice bg A.length cA] w fun e w'=>∃p n B,e=returned (agg #[slice p.ao (bL l b a a.length).length p.cap,slice n.ao B.length n.cap])/\B.map (·.L)=bu b a (A.map (·.L)) a.length/\pX w B/\ip w w' p (aE (bL l b a a.length))/\ip w w' n (l5 B):=by
 have HD:Xr _:=hD;have ca:Xr _:=ok;have cE:=ok.tm;have hn:=ok.ok.m;have HH:Xr _:=hH;have b5:Xr _:=y;have HA:Xr _:=hA;have b2:Xr _:=bo;have HF:Xr _:=hF;have HN:Xr _:=hN;obtain⟨iS,cq,bz,bT,b0⟩:=TZ kg;obtain⟨iL,bw,ad,af,ag⟩:=TZ Fp;have S0:Xr (LP w ((w.alloc (.cells #[slice none 0 0,slice none 0 0] 271)).alloc (.cells #[slice none 0 0,slice none 0 0] 271)) [] ⟨none,0⟩ [] ⟨none,0⟩):=by
  obtain⟨W1,Y⟩:∃W1,W1=w.alloc (.cells #[slice none 0 0,slice none 0 0] 271):=⟨_,rfl⟩
  have z1:W1.heap.size=w.heap.size+1:=by rw[Y];simp
  have k0:=fI Y.symm;have e0:=f9 Y.symm;have k1:ae [] W1 (W1.alloc (.cells #[slice none 0 0,slice none 0 0] 271)):=bR.alloc _;show LP _ _ _ _ _ _;rw[<-Y];exact⟨k1.get e0 (by simp),by rw[<-z1];exact Tu _ _,Ty _ _ _ _,Ty _ _ _ _,(by intro k hk;cases hk),(by intro k hk;cases hk),(by intro k hk;cases hk),(fun s a=>by cases a),k0.trans k1⟩
 obtain⟨M,a7⟩:=bn (A.map (·.L));rw[a7.o];have b6:Xr (∀k,k<A.length->M.getD k []=(gQ A k).L):=fun k hk=>by rw[<-a7.o];exact xV A k hk
 have cb:Xr (([]:Xt)=bL l b a 0):=rfl;have b3:Xr (([]:List Sl).map (·.L)=bu b a M 0):=rfl;clear hD ok hH y hA bo hF hN;go_enter func178,ntmps178;go_wp2
 go_loopg [8] a.length (fun g b1 wr=>∃(k:Nat) (V:Xt) (p:Hd) (B:List Sl) (n:Hd),k<=a.length/\g=a.length-k/\b1=int i64 k/\(V.length<=k/\B.length<=k)/\Xr (V=bL l b a k)/\Xr (B.map (·.L)=bu b a M k)/\Xr (LP w wr V p B n))
 ·exact⟨0,[],⟨none,0⟩,[],⟨none,0⟩,by omega,rfl,rfl,⟨Tq _,Tq _⟩,cb,b3,S0⟩
 obtain⟨k,V,p,B,n,hk,hg,rfl,⟨cF,cy⟩,HV,HB,u⟩:=hrel;have T:Xr _:=u.o.XR;rcases kn k a.length with ⟨y,cs⟩ | ⟨y,-⟩
 ·have cr:=b5.o a[k] (TP y);have R:a[k]<b.length:=by omega
  obtain⟨gH,rfl,cl,bk⟩:=(sD.XE HH.o T.o) k a[k] (Tn y);have a5:Xr _:=gy.XE HD.o T.o;obtain⟨t0,s0,ck⟩:=a5.o.cells;obtain⟨gs,rfl,cp,-,-,-,q3⟩:=a5.o.s.2 a[k] b[a[k]] (Tn R);have aT:a.getD k 0=a[k]:=by rw[To,Tn y];rfl
  have bd:Xr (so b a k=(b[a[k]].k.toList == [36,102])):=ci (by unfold so;rw[aT,bW b a[k] R]);have z:Xr _:=KE b a k;have c3:((a[k]:Nat):Int)<b.length:=by omega
  have c2:(0:Int)<=((a[k]:Nat):Int):=by omega
  have a2:Xr ((b[a[k]].k.toList == [36,102])=true->∀wx,ae [] w wx->Calls prog 73 #[pointer (some ⟨i,0,none⟩),int i64 ((a[k]:Nat):Int)] wx fun e w'=>∃h',e=returned (slice h'.ao (bB l b[a[k]].h).length h'.cap)/\zD wx w' h' (bB l b[a[k]].h)):=fun h wx kx=>mq i a[k] l t N b _ H wx (gy.XE HD.o kx) R (by omega) (by have:=ca.o.e a[k] cr;rw[<-bW b a[k] R]at this;exact this (fO h (by decide)));have a3:Xr (bB l b[a[k]].h=bb l b (a.getD k 0)):=ci (by unfold bb;rw[aT,bW b a[k] R]);rw[a3.o]at a2;have a6:Xr _:=HF.o k y;rw[bd.o]at z a6;clear a3 bd aT;generalize b[a[k]].k=sk at *;generalize a[k]=j at *;cases h1:(sk.toList == [36,102])
  ·rw[h1,Tp (by simp),TY]at z;have U:Xr (V=bL l b a (k+1)):=ci (by unfold bL;rw[z.o];exact HV.o);have O:Xr (B.map (·.L)=bu b a M (k+1)):=ci (by unfold bu;rw[z.o];exact HB.o);(go_upto_region 5 with fail);go_quiet (fail);have av:Xr _:=u.o.XE ((ae.refl [] wr).drewN nq);go_wp2;go_roundg (a.length-(k+1))
   ·exact⟨k+1,V,p,B,n,by omega,rfl,by go_num,⟨by omega,by omega⟩,U,O,av⟩
   omega
  ·rw[h1,Tr rfl]at z;have bs:=a6.o h1;have an:Xr _:=a2.o h1;obtain⟨X,HX⟩:=bn (bb l b (a.getD k 0));rw[HX.o]at bs an;have U:Xr (V++[X.getD 1 ⟨#[]⟩]=bL l b a (k+1)):=ci (by unfold bL;rw[z.o,Uh,HV.o];simp only[List.map_cons,List.map_nil];rw[HX.o];rfl);have Z:k<A.length:=(by omega);have O:Xr (B.map (·.L)++[(gQ A k).L.drop 1]=bu b a M (k+1)):=ci (by unfold bu;rw[z.o,Uh,HB.o];simp only[List.map_cons,List.map_nil];rw[b6.o k Z];rfl);(go_upto_region 5 with fail);go_quiet (fail);(go_upto_region 6 with fail);obtain⟨W2,ac⟩:=bn (wr.drewN nq);rw[ac.o];have k2:ae [] wr W2:=(by rw[<-ac.o];exact(ae.refl [] wr).drewN nq);have av:Xr _:=u.o.XE k2;have a1:Xr _:=an.o W2 (T.o.trans k2);have bl:W2.cell? ⟨gH,k,none⟩=some (int i64 (j:Int)):=(by rw[TO (k2.block gH cl (by simp))];exact bk);clear t0 s0 ck q3 bk cp k2 an;(go_upto_region 7 with (go_at_call 73;refine Ts a1.o ?_;rintro e w3 ⟨h3,rfl,x3⟩));have G:Xr _:=av.o.XE x3.XR;obtain⟨gX,eX,co,cX⟩:=x3.X9.srcX 1 _ (ni X 1 bs);generalize X.getD 1 ⟨#[]⟩=x at *;rw[eX];have cL:(1:Int)<X.length:=(by omega);have p0:w3.cell? ⟨w.heap.size+1,0,none⟩=some (slice p.ao V.length p.cap):=(by rw[ah G.o.c];rfl);have p2:=aj G.o.c;have ch:=G.o.v;have cj:Xr ((aE V).n<=900000000):=(by show V.length<=_;omega);have cc:Xr ((aE V).n=V.length):=rfl;clear bl x3;go_region_law (refine bX w3 rfl (.tmp 36) (.tmp 40) 61 rfl iS (string ⟨#[]⟩) 16 p (aE V) [string x] underlying61 cq bz bT b0 rfl TR (by rw[cc.o];simp[Act.eval]) ch cj.o (by omega) (by simp[Act.eval]) rfl (by simp[Value.oneCell']) ?_;intro ax P w5 a0 aS;have c5:=aS.XR.get G.o.c (fun I=>by have:=G.o.fv _ (aQ I);omega);have f5:=am c5 0;have d5:w5.cell? ⟨w.heap.size+1,0,none⟩=some (slice p.ao V.length p.cap):=(by rw[ah c5];rfl);have z5:=aj c5)
   all_goals
    rw[dX]at a0;have d:Xr _:=(G.o.addV (m:=(aE V).n+1) aS a0 (by simp[aE]));obtain⟨X5,bf⟩:=bn (w5.setCell ⟨w.heap.size+1,0,none⟩ (slice ax ((aE V).n+1) P));rw[bf.o]at d ⊢;clear a0 aS c5 f5 d5 z5 p0 p2 bf co cX;have b4:Xr _:=d.o.XR;obtain⟨gA,rfl,cV,cf⟩:=di.sl (di.XE HA.o b4.o) k Z;have ar:Xr _:=b2.o (gQ A k) (ko A k Z);have bx:=HN.o (gQ A k) (ko A k Z);have cx:(k:Int)<A.length:=by omega
    generalize gQ A k=s at *;obtain⟨cu,f,F⟩:=s;obtain⟨J,K,es,-,-⟩:=ar.o.src 0 _ (ni F 0 bx);replace es:cu=some ⟨J,K,none⟩:=es;subst es;have ct:=ar.o.le;simp only at cf bx ct O;have p0:X5.cell? ⟨w.heap.size+1,1,none⟩=some (slice n.ao B.length n.cap):=by rw[ah d.o.c];rfl
    have p2:=aj d.o.c;have br:=d.o.b;have bp:Xr ((l5 B).n<=900000000):=(by show B.length<=_;omega);have a4:Xr ((l5 B).n=B.length):=rfl;have c4:(1:Int)<=F.length:=(by omega);have cP:1<=f:=(by omega);have cR:(F.length:Int)<=(f:Int):=(by omega);by_cases bv:f=1
    ·subst bv;have HT:Xr (qn w ⟨some ⟨J,K,none⟩,0,F.drop 1⟩):=(by show qn w _;rw[VJ (by omega)];exact qn.none0 (fun e=>by cases e));have ap:Xr (([slice (some ⟨J,K,none⟩) 0 0]:List Value)=Gr ⟨some ⟨J,K,none⟩,0,F.drop 1⟩):=ci (by unfold Gr;rw[VJ (by omega)];rfl);(go_upto_region 8 with fail);go_region_law (refine bX X5 rfl (.tmp 44) (.tmp 50) 218 rfl iL (slice none 0 0) 24 n (l5 B) [slice (some ⟨J,K,none⟩) 0 0] underlying218 bw ad af ag rfl TR (by rw[a4.o];simp[Act.eval]) br bp.o (by omega) (by simp[Act.eval]) rfl (by simp[Value.oneCell']) ?_;intro az Q w6 E C;have W:=C.XR.get d.o.c (fun I=>by have:=d.o.fb _ (aQ I);omega);have f6:=am W 1;have d6:w6.cell? ⟨w.heap.size+1,1,none⟩=some (slice n.ao B.length n.cap):=(by rw[ah W];rfl);have z6:=aj W)
     all_goals
      rw[ap.o,rJ]at E
      have ai:=(show Xr _ from d.o.addB (m:=(l5 B).n+1) C E (fun s a=>by
       rcases Ug.1 a with h | h
       ·exact d.o.s s h
       ·rw[TI.1 h];exact HT.o) (by simp[l5,lG]))
      have al:Xr ((B++[(⟨some ⟨J,K,none⟩,0,F.drop 1⟩:Sl)]).map (·.L)=bu b a M (k+1)):=ci (by rw[Uh];exact O.o);clear E C W;go_wp2;go_roundg (a.length-(k+1))
      ·exact⟨k+1,V++[x],⟨ax,P⟩,B++[⟨some ⟨J,K,none⟩,0,F.drop 1⟩],⟨az,Q⟩,by omega,rfl,by go_num,⟨by simp;omega,by simp;omega⟩,U,al,ai⟩
      omega
    ·have HT:Xr _:=qn.tail ar.o;have ap:Xr (F.length-1=(F.drop 1).length):=ci (by simp);(go_upto_region 8 with fail);go_region_law (refine bX X5 rfl (.tmp 44) (.tmp 50) 218 rfl iL (slice none 0 0) 24 n (l5 B) [slice (some ⟨J,K+1,none⟩) (F.length-1) (f-1)] underlying218 bw ad af ag rfl TR (by rw[a4.o];simp[Act.eval]) br bp.o (by omega) (by simp[Act.eval]) rfl (by simp[Value.oneCell']) ?_;intro az Q w6 E C;have W:=C.XR.get d.o.c (fun I=>by have:=d.o.fb _ (aQ I);omega);have f6:=am W 1;have d6:w6.cell? ⟨w.heap.size+1,1,none⟩=some (slice n.ao B.length n.cap):=(by rw[ah W];rfl);have z6:=aj W)
     all_goals
      rw[ap.o,show([slice (some ⟨J,K+1,none⟩) (F.drop 1).length (f-1)]:List Value)=Gr ⟨some ⟨J,K+1,none⟩,f-1,F.drop 1⟩ from rfl,rJ]at E
      have ai:=(show Xr _ from d.o.addB (m:=(l5 B).n+1) C E (fun s a=>by
       rcases Ug.1 a with h | h
       ·exact d.o.s s h
       ·rw[TI.1 h];exact HT.o) (by simp[l5,lG]))
      have al:Xr ((B++[(⟨some ⟨J,K+1,none⟩,f-1,F.drop 1⟩:Sl)]).map (·.L)=bu b a M (k+1)):=ci (by rw[Uh];exact O.o);clear E C W;go_wp2;go_roundg (a.length-(k+1))
      ·exact⟨k+1,V++[x],⟨ax,P⟩,B++[⟨some ⟨J,K+1,none⟩,f-1,F.drop 1⟩],⟨az,Q⟩,by omega,rfl,by go_num,⟨by simp;omega,by simp;omega⟩,U,al,ai⟩
      omega
 ·have e:k=a.length:=by omega
  subst e;have cs:¬(a.length:Int)<a.length:=by omega
  have r0:wr.cell? ⟨w.heap.size,0,none⟩=some (slice none 0 0):=by rw[ah u.o.r];rfl
  have r1:wr.cell? ⟨w.heap.size,1,none⟩=some (slice none 0 0):=by rw[ah u.o.r];rfl
  have r2:=am u.o.r 0;have r3:=am u.o.r 1;have c0:wr.cell? ⟨w.heap.size+1,0,none⟩=some (slice p.ao V.length p.cap):=by rw[ah u.o.c];rfl
  have c1:wr.cell? ⟨w.heap.size+1,1,none⟩=some (slice n.ao B.length n.cap):=by rw[ah u.o.c];rfl
  have ba:Xr (∀q,p.XS=some q->q≠w.heap.size):=fun q I=>by have:=u.o.fv q I;omega
  have bc:Xr (∀q,n.XS=some q->q≠w.heap.size):=fun q I=>by have:=u.o.fb q I;omega
  have be:Xr (bL l b a a.length=V):=HV.o.symm;go_wp2;obtain⟨x0,x1⟩:=LB u.o.r (slice p.ao V.length p.cap) (slice n.ao B.length n.cap);have kf:ae [] w ((wr.setCell ⟨w.heap.size,0,none⟩ (slice p.ao V.length p.cap)).setCell ⟨w.heap.size,1,none⟩ (slice n.ao B.length n.cap)):=(T.o.sr1 (by simp) _).sr1 (by simp) _;exact Tz (v:=agg #[slice p.ao V.length p.cap,slice n.ao B.length n.cap]) (by simp[results,results178,go_sem,x0,x1]) rfl ⟨p,n,B,by rw[be.o],HB.o,u.o.s,by rw[be.o];exact⟨(u.o.v.XN ba.o _ _).XN ba.o _ _,fun q I=>(by have:=u.o.fv q I;omega),kf⟩,⟨(u.o.b.XN bc.o _ _).XN bc.o _ _,fun q I=>(by have:=u.o.fb q I;omega),kf⟩⟩
def fU(T:List Tk)(S:List Sm)(hs:Xv)(k:Nat):Xt:=((hs.take k).filter (fun j=>((aq S j).k.toList == [36,102]))).map (fun j=>tS T ((aq S j).h+1))
def PY(p:Xs×Xs):List Value:=[string p.1,string p.2]
theorem NG(p:Xs×Xs):(PY p).length=2:=rfl
def mT(L:Fs):eR:=lG 114 2 PY L
theorem DZ(L:Fs)(x:Xs×Xs):(⟨(mT L).e,(mT L).size,(mT L).n+1,(mT L).xs++PY x⟩:eR)=mT (L++[x]):=iA _ _ _ _ _
def kI(T:List Tk)(S:List Sm)(a:Nat)(V:Xt)(i m:Nat):Fs:=((List.range m).filter (fun j=>decide (i<j)&&eB T S (V.getD i ⟨#[]⟩) (V.getD j ⟨#[]⟩) a)).map (fun j=>(V.getD i ⟨#[]⟩,V.getD j ⟨#[]⟩))
def lN(T:List Tk)(S:List Sm)(a:Nat)(V:Xt)(k:Nat):Fs:=(List.range k).flatMap (fun i=>kI T S a V i V.length)
def lY(T:List Tk)(S:List Sm)(a:Nat):Fs:=lN T S a (fU T S (a9 T S a) (a9 T S a).length) (fU T S (a9 T S a) (a9 T S a).length).length
theorem DN(h:L<H):kI l b k n L (H+1)=kI l b k n L H++(if eB l b (n.getD L ⟨#[]⟩) (n.getD H ⟨#[]⟩) k=true then [(n.getD L ⟨#[]⟩,n.getD H ⟨#[]⟩)] else []):=by
 unfold kI;rw[fZ,Uh,UR h,U6];split <;> rfl
theorem DO:kI l b k n H (H+1)=[]:=by
 unfold kI;rw[VZ.2 (fun j a=>by have:=TG.1 a;simp;omega)];rfl
theorem yk:lN l b k n (H+1)=lN l b k n H++kI l b k n H n.length:=by
 unfold lN;rw[UU,U4];simp
theorem F0:(kI l b k n L H).length<=H:=by
 unfold kI;rw[TT];have:=U3 (fun j=>decide (L<j)&&eB l b (n.getD L ⟨#[]⟩) (n.getD j ⟨#[]⟩) k) (List.range H);rw[U8]at this;exact this
theorem FH(h:H<M.length):fU l b M (H+1)=fU l b M H++(if((aq b M[H]).k.toList == [36,102])=true then [tS l ((aq b M[H]).h+1)] else []):=by
 unfold fU;rw[Up h,UI,Uh];congr 1;cases a:((aq b M[H]).k.toList == [36,102])
 ·rw[U9 (by rw[a];simp)];rfl
 ·rw[Vm (p:=fun j=>((aq b j).k.toList == [36,102])) a];rfl
theorem Pq:(prog.info? 114).map (fun i=>(i.zero,i.size,i.bytes))=some (some (agg #[string ⟨#[]⟩,string ⟨#[]⟩]),2,32):=by kernel_rfl
theorem FW(w:World)(hD:gy w i l t N b D H)(ok:pA l b S)(hn:S<b.length)(hE:dV l (aq b S).h) :
  Calls prog 65 #[pointer (some ⟨i,0,none⟩),int i64 S] w fun e a=>∃G,e=returned (slice G.ao (lY l b S).length G.cap)/\ip w a G (mT (lY l b S)):=by
 have HD:Xr _:=hD;have a4:Xr _:=ok;have cx:=ok.sm;have cy:=ok.tm;have a0:Xr _:=rx i S l t N b D H w hD ok hn hE;have c4:=nz l b S;have b5:Xr _:=qF l b S;have b0:Xr (lY l b S=lN l b S (fU l b (a9 l b S) (a9 l b S).length) (fU l b (a9 l b S) (a9 l b S).length).length):=rfl;obtain⟨iS,cq,bp,br,bs⟩:=TZ kg;obtain⟨iP,cp,bk,bl,bo⟩:=TZ Pq;clear hD ok;generalize a9 l b S=c at *;go_enter func65,ntmps65;go_upto_region 3 with (go_at_call 63;refine Ts a0.o ?_;rintro e C ⟨h1,rfl,x1⟩)
 have a2:Xr _:=x1.XR;have b3:Xr _:=x1.X9.srcN;have bx:Xr (ip C C ⟨none,0⟩ (aE [])):=⟨Ty _ _ _ _,(by intro k hk;cases hk),ae.refl _ _⟩;clear x1 a0;obtain⟨a1,c1⟩:=h1;have b4:Xr (([]:Xt)=fU l b c 0):=ci (by simp[fU]);go_wp2
 go_loopg [5,7] c.length (fun g o bv wr=>∃(k:Nat) (G:Hd) (V:Xt),k<=c.length/\g=c.length-k/\o=slice G.ao V.length G.cap/\bv=int i64 k/\V.length<=k/\Xr (V=fU l b c k)/\Xr (ip C wr G (aE V)))
 ·exact⟨0,⟨none,0⟩,[],by omega,rfl,rfl,rfl,by simp,b4,bx⟩
 obtain⟨k,G,V,hk,hg,rfl,rfl,cz,HV,O⟩:=hrel;have Z:Xr _:=a2.o.trans O.o.XR;rcases kn k c.length with ⟨M,cP⟩ | ⟨M,-⟩
 ·have cr:=b5.o c[k] (TP M);have av:c[k]<b.length:=by omega
  obtain⟨gH,eH,cl,cH⟩:=b3.o k c[k] (Tn M);replace eH:a1=some ⟨gH,0,none⟩:=eH;subst eH;have Y:Xr _:=gy.XE HD.o a2.o;obtain⟨t0,s0,hb⟩:=Y.o.cells;obtain⟨K,rfl,bf,-,-,q2,q3⟩:=Y.o.s.2 c[k] b[c[k]] (Tn av);have B:Xr _:=FH l b c k M;rw[<-HV.o,<-bW b c[k] av]at B;have bw:Xr ((b[c[k]].k.toList == [36,102])=true->b[c[k]].h+1<l.length):=fun h=>by have:=a4.o.f c[k] cr;rw[<-bW b c[k] av]at this;exact this h
  have cL:((c[k]:Nat):Int)<b.length:=by omega
  have cF:(0:Int)<=((c[k]:Nat):Int):=by omega
  generalize b[c[k]].k=sk at *;generalize b[c[k]].h=r at *;generalize c[k]=j at *;have W:Xr (∀a:World,C.heap.size<=a.heap.size->(∀q,q<C.heap.size->a.heap[q]?=C.heap[q]?)->(a.cell? ⟨i,0,none⟩=some (slice t l.length N)/\a.cell? ⟨i,1,none⟩=some (slice (some ⟨K,0,none⟩) b.length H)/\a.cell? ⟨gH,k,none⟩=some (int i64 (j:Int))/\a.cell? ⟨K,j*4+2,none⟩=some (int i64 (r:Int))/\a.cell? ⟨K,j*4+3,none⟩=some (string sk))/\i<a.heap.size/\K<a.heap.size/\gH<a.heap.size):=fun a hz d =>
   ⟨⟨by rw[TO (d i hb)];exact t0,by rw[TO (d i hb)];exact s0,by rw[TO (d gH cl)];exact cH,by rw[TO (d K bf)];exact q2,by rw[TO (d K bf)];exact q3⟩,by omega,by omega,by omega⟩
  clear t0 s0 q2 q3 cH;have b2:Xr (∀q,q<C.heap.size->wr.heap[q]?=C.heap[q]?):=fun q d=>O.o.XR.block q d (by simp);obtain⟨⟨t0,s0,cH,q2,q3⟩,bd,R,Q⟩:=W.o wr O.o.XR.size b2.o;cases h1:(sk.toList == [36,102])
  ·have F:Xr (V=fU l b c (k+1)):=(by have:=B.o;rw[h1,Tp (by simp),TY]at this;exact this.symm);(go_upto_region 6 with fail);go_quiet (fail);have z:Xr _:=O.o.XE ((ae.refl [] wr).drewN nq);go_wp2;go_roundg (c.length-(k+1))
   ·exact⟨k+1,G,V,by omega,rfl,rfl,by go_num,by omega,F,z⟩
   omega
  ·have F:Xr (V++[tS l (r+1)]=fU l b c (k+1)):=(by have:=B.o;rw[h1,Tr rfl]at this;exact this.symm);have ck:=bw.o h1;obtain⟨gT,rfl,co,u0,-⟩:=Y.o.t.2 (r+1) _ (jd l (r+1) ck);replace u0:C.cell? ⟨gT,(r+1)*5,none⟩=some (string (tS l (r+1))):=u0;generalize tS l (r+1)=v at *;have aT:Xr (∀a:World,(∀q,q<C.heap.size->a.heap[q]?=C.heap[q]?)->a.cell? ⟨gT,(r+1)*5,none⟩=some (string v)):=fun a d=>by rw[TO (d gT co)];exact u0
   have cA:(r:Int)+1<l.length:=(by omega);have c3:IntKind.i64.wrap ((r:Int)+1)=(r:Int)+1:=(by rw[UX];omega);have c2:((r:Int)+1).toNat=r+1:=(by omega);have c0:(0:Int)<=(r:Int)+1:=(by omega);(go_upto_region 6 with fail);go_quiet (fail);(go_upto_region 7 with fail);obtain⟨W2,a5⟩:=bn (wr.drewN nq);rw[a5.o];have k2:ae [] wr W2:=(by rw[<-a5.o];exact(ae.refl [] wr).drewN nq);have z:Xr _:=O.o.XE k2;have af:Xr (∀q,q<C.heap.size->W2.heap[q]?=C.heap[q]?):=fun q d=>z.o.XR.block q d (by simp);clear t0 s0 cH q2 q3 bd R Q u0;obtain⟨⟨t0,s0,cH,q2,-⟩,bd,R,Q⟩:=W.o W2 z.o.XR.size af.o;have u0:=aT.o W2 af.o;have al:=z.o.X9;have cj:Xr ((aE V).n<=900000000):=by show V.length<=_;omega
   have HS:Xr (∀(A:World) (h5:Hd),bq W2 A G h5->(A.cell? ⟨i,0,none⟩=some (slice (some ⟨gT,0,none⟩) l.length N)/\A.cell? ⟨i,1,none⟩=some (slice (some ⟨K,0,none⟩) b.length H)/\A.cell? ⟨gH,k,none⟩=some (int i64 (j:Int))/\A.cell? ⟨K,j*4+2,none⟩=some (int i64 (r:Int))/\A.cell? ⟨gT,(r+1)*5,none⟩=some (string v))):=fun A h5 gr=>by
    have bg:∀q,q<C.heap.size->A.heap[q]?=C.heap[q]?:=fun q d=>by
     rw[gr.XR.block q (Tw d z.o.XR.size) (fun hm=>by have:=O.o.far q (aQ hm);omega)];exact af.o q d
    obtain⟨⟨y0,y1,y2,y3,-⟩,-⟩:=W.o A (TF z.o.XR.size gr.XR.size) bg;exact⟨y0,y1,y2,y3,aT.o A bg⟩
   clear k2;go_region_held3 (fun a=>a.cell? ⟨i,0,none⟩=some (slice (some ⟨gT,0,none⟩) l.length N)/\a.cell? ⟨i,1,none⟩=some (slice (some ⟨K,0,none⟩) b.length H)/\a.cell? ⟨gH,k,none⟩=some (int i64 (j:Int))/\a.cell? ⟨K,j*4+2,none⟩=some (int i64 (r:Int))/\a.cell? ⟨gT,(r+1)*5,none⟩=some (string v)) (go_keep) ((refine bX W2 (by rfl) (.tmp 33) (.tmp 53) 61 (by rfl) iS (string ⟨#[]⟩) 16 G (aE V) [string v] underlying61 cq bp br bs rfl TR (by simp[Act.eval] <;> rfl) al cj.o (by omega) (by simp[Act.eval]) rfl (by simp[Value.oneCell']) ?_;intro ca ba A ax an;obtain⟨y0,y1,y2,y3,y4⟩:=HS.o A _ an));rw[dX]at ax;have ad:Xr _:=z.o.XO an ax;clear ax an;go_wp2;go_roundg (c.length-(k+1))
   ·exact⟨k+1,⟨ca,ba⟩,V++[v],by omega,rfl,by simp[aE],by go_num,by simp;omega,F,ad⟩
   omega
 ·have e:k=c.length:=by omega
  subst e;have b1:Xr (lY l b S=lN l b S V V.length):=ci (by rw[b0.o,HV.o]);have ag:Xr _:=O.o.X9.srcX;have a3:Xr (ip wr wr ⟨none,0⟩ (mT [])):=⟨Ty _ _ _ _,(by intro k hk;cases hk),ae.refl _ _⟩;have bz:Xr (([]:Fs)=lN l b S V 0):=ci (by simp[lN]);obtain⟨va,vc⟩:=G;obtain⟨w2,ai⟩:=bn (wr);rw[ai.o];rw[ai.o]at ag a3 Z;clear HV O ai;go_wp2
  go_loopg [8,9] V.length (fun g o bv w3=>∃(m:Nat) (h2:Hd) (L:Fs),m<=V.length/\g=V.length-m/\o=slice h2.ao L.length h2.cap/\bv=int i64 m/\L.length<=10000*m/\Xr (L=lN l b S V m)/\Xr (ip w2 w3 h2 (mT L)))
  ·exact⟨0,⟨none,0⟩,[],by omega,rfl,rfl,rfl,by simp,bz,a3⟩
  obtain⟨m,h2,L,hm,cB,rfl,rfl,hL,HL,a6⟩:=hrel;rcases kn m V.length with ⟨T,cR⟩ | ⟨T,-⟩
  ·have bT:Xr (L=lN l b S V m++kI l b S V m (m+1)):=(by show _=_;rw[DO,TY];exact HL.o);obtain⟨J,eV,be,cc⟩:=ag.o m _ (ni V m T);replace eV:va=some ⟨J,0,none⟩:=eV;subst eV;go_wp2
   go_loopg [8,10] (V.length-(m+1)) (fun g o bv w3=>∃(q:Nat) (P:Hd) (E:Fs),(m<q/\q<=V.length)/\g=V.length-q/\o=slice P.ao E.length P.cap/\bv=int i64 q/\E.length<=10000*m+q/\Xr (E=lN l b S V m++kI l b S V m q)/\Xr (ip w2 w3 P (mT E)))
   ·exact⟨m+1,h2,L,⟨by omega,by omega⟩,rfl,rfl,by go_num,by omega,bT,a6⟩
   obtain⟨q,P,E,⟨cs,cV⟩,cE,rfl,rfl,cu,ac,I⟩:=hrel;rcases kn q V.length with ⟨U,cX⟩ | ⟨U,-⟩
   ·obtain⟨ct,cf,-,a7⟩:=ag.o q _ (ni V q U);cases cf
    have B:Xr _:=DN l b S V m q cs;have aS:Xr (∀wx,ae [] w2 wx->Calls prog 95 #[pointer (some ⟨i,0,none⟩),string (V.getD m ⟨#[]⟩),string (V.getD q ⟨#[]⟩),int i64 S] wx fun e a=>e=returned (bool (eB l b (V.getD m ⟨#[]⟩) (V.getD q ⟨#[]⟩) S))/\ae [] wx a):=fun wx kx=>xe i S _ _ l t N b D H wx (gy.XE HD.o (Z.o.trans kx)) a4.o;have X:Xr (∀a:World,w2.heap.size<=a.heap.size->(∀q,q<w2.heap.size->a.heap[q]?=w2.heap[q]?)->a.cell? ⟨J,m,none⟩=some (string (V.getD m ⟨#[]⟩))/\a.cell? ⟨J,q,none⟩=some (string (V.getD q ⟨#[]⟩))/\J<a.heap.size):=fun a hz d=>⟨by rw[TO (d J be)];exact cc,by rw[TO (d J be)];exact a7,by omega⟩
    generalize V.getD m ⟨#[]⟩=x at *;generalize V.getD q ⟨#[]⟩=y at *;obtain⟨ap,b6⟩:=bn (eB l b x y S);rw[b6.o]at aS B;clear a7;obtain⟨v0,v1,bj⟩:=X.o wr I.o.XR.size (fun q d=>I.o.XR.block q d (by simp));(go_upto_region 15 with fail);go_region_with (go_at_call 95;refine(aS.o _ (by exact I.o.XR.drew)).mono ?_;rintro e A ⟨rfl,k5⟩)
    all_goals
     have k6:ae [] wr A:=((ae.refl [] wr).drew).trans k5;have n:Xr _:=I.o.XE k6;clear k5 k6 v0 v1 bj;cases ap
     ·have F:Xr (E=lN l b S V m++kI l b S V m (q+1)):=(by show _=_;rw[B.o,Tp (by simp),TY];exact ac.o);go_wp2;go_roundg (V.length-(q+1))
      ·exact⟨q+1,P,E,⟨by omega,by omega⟩,rfl,rfl,by go_num,by omega,F,n⟩
      omega
     ·have F:Xr (E++[(x,y)]=lN l b S V m++kI l b S V m (q+1)):=(by show _=_;rw[B.o,Tr rfl,ac.o,U5]);(go_upto_region 17 with fail);obtain⟨v0,v1,bj⟩:=X.o A n.o.XR.size (fun q d=>n.o.XR.block q d (by simp));have al:=n.o.X9;have ch:Xr ((mT E).n<=900000000):=(by show E.length<=_;omega);have s3:Xr (∀u∈([string x,string y]:List Value),u.oneCell'=true):=by intro u hu;simp only[List.mem_cons,List.not_mem_nil,or_false]at hu;rcases hu with rfl | rfl <;> rfl
      have HS:Xr (∀(w6:World) (h6:Hd),bq A w6 P h6->w6.cell? ⟨J,m,none⟩=some (string x)/\w6.cell? ⟨J,q,none⟩=some (string y)):=fun w6 h6 gr=>by
       obtain⟨y0,y1,-⟩:=X.o w6 (TF n.o.XR.size gr.XR.size) (fun p hp=>by
        rw[gr.XR.block p (Tw hp n.o.XR.size) (fun hm=>by have:=n.o.far p (aQ hm);omega)];exact n.o.XR.block p hp (by simp))
       exact⟨y0,y1⟩
      go_region_held3 (fun a=>a.cell? ⟨J,m,none⟩=some (string x)/\a.cell? ⟨J,q,none⟩=some (string y)) (go_keep) ((refine bX A (by rfl) (.tmp 81) (.tmp 91) 111 (by rfl) iP (agg #[string ⟨#[]⟩,string ⟨#[]⟩]) 32 P (mT E) [string x,string y] underlying111 cp bk bl bo rfl Xb (by simp[Act.eval] <;> rfl) al ch.o (by omega) (by simp[Act.eval]) rfl s3.o ?_;intro cb bc w6 az ar;obtain⟨y0,y1⟩:=HS.o w6 _ ar));rw[show([string x,string y]:List Value)=PY (x,y) from rfl,DZ]at az;have ad:Xr _:=n.o.XO ar az;clear az ar;go_wp2;go_roundg (V.length-(q+1))
      ·exact⟨q+1,⟨cb,bc⟩,E++[(x,y)],⟨by omega,by omega⟩,rfl,by simp[mT,lG],by go_num,by simp;omega,F,ad⟩
      omega
   ·have eq:q=V.length:=(by omega);subst eq;have F:Xr (E=lN l b S V (m+1)):=ci (by rw[yk];exact ac.o);go_wp2;go_roundg (V.length-(m+1))
    ·exact⟨m+1,P,E,by omega,rfl,rfl,by go_num,by omega,F,I⟩
    omega
  ·have e:m=V.length:=(by omega);subst e;have F:Xr (lY l b S=L):=ci (by rw[b1.o,HL.o]);go_wp2;go_ret;exact⟨h2,by rw[F.o];rfl,by rw[F.o];exact a6.o.base Z.o⟩
end Go.Proofs.YtnbhnocdhbcbcaaGreat
