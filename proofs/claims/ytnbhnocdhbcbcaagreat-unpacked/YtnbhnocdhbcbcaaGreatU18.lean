import Derived.BigQuiet
import Derived.Deep.RegionLaw
import Derived.Test.YtnbhnocdhbcbcaaGreatU17
namespace Go.Proofs.YtnbhnocdhbcbcaaGreat
open Go.RowKit Tryz
open Value IntKind Ending
set_option maxHeartbeats 0
variable{d s:World}{y:Nat}{v:Xt}{c:Hd}{u:Xs}{z0:Xu}(I T:Nat)(f:Xt)(i S:Nat)(l:List Tk)(x:List ci)(t:Xu)(N:Nat)(b:List Sm)(k:Nat)(M:Xv)(D:Xu)(n:Xt)(L H:Nat)
def vD(rec:Nat->Int):Nat->Nat->Xv->Xv
 | 0,_,acc=>acc
 | m+1,b,acc=>vD rec m (rec (b-1)).toNat ((b-1) :: acc)
def dy(P:List ci)(i:Nat):Xv:=vD (dJ P) (aQ P i).need i []
theorem Oj(c:Nat->Int)(m:Nat):∀b a,(vD c m b a).length=m+a.length:=by
 induction m with
 | zero=>intro b a;simp[vD]
 | succ m d=>intro b a;rw[vD,d];simp;omega
theorem vA:(dy x H).length=(aQ x H).need:=by unfold dy;rw[Oj];simp
theorem QF{c:Nat->Int}(k:∀i,c i<=(i:Int))(m:Nat):∀b a i,b<=i->0<=oJ c m b->(∀q∈a,q<i)->∀q∈vD c m b a,q<i:=by
 induction m with
 | zero=>intro b a i _ _ h;exact h
 | succ m l =>
  intro b a i n d h q f;rw[oJ]at d;rw[vD]at f;by_cases j:b=0
  ·rw[Uf j]at d;omega
  ·rw[Ud j]at d;by_cases g:c (b-1)<0
   ·rw[Uf g]at d;omega
   ·rw[Ud g]at d;have:=k (b-1);refine l _ _ i (by omega) d (fun q f=>?_) q f;rcases UH.1 f with e | e
    ·omega
    ·exact h q e
theorem qV(h:0<=dJ x H):∀q∈dy x H,q<H:=by
 rw[nO]at h;exact QF (xv x) _ _ _ H (Ue _) h (fun q a=>by cases a)
theorem QB(m x:Nat)(L:Xv):(jF (List.replicate (m+1) 0++L)).set m (int i64 x)=jF (List.replicate m 0++x :: L):=by
 unfold jF
 induction m with
 | zero=>simp
 | succ m a=>rw[WS,Wc,VW,Wb,a];simp[List.replicate_succ]
theorem Kw:madeCells (int i64 0).cells (H*1)=(jF (List.replicate H 0)).toArray:=by
 rw[XL];apply Array.ext
 ·rw[VH];simp[jF]
 ·intro i a b;have e:(int i64 0).cells=#[int i64 0]:=rfl;simp[madeCells,e,Nat.mod_one,jF]
def oR(w:World)(g:Nat)(L:Xv):Prop:=w.heap[g]?=some (.cells (jF L).toArray 3)
theorem oR.src{L:Xv}(h:oR d y L):qA d (some ⟨y,0,none⟩) L:=by
 intro k x a;refine⟨y,rfl,aj h,?_⟩;rw[ah h];simp[jF,a]
set_option maxRecDepth 100000
theorem vy(y:Int)(v:Xs)(z u:Int)(i:Nat)(w:World)(hl:x.length<=100000000)(hN:Fj x)(hi:i<x.length)(hS:cN w D 6 lp x)(Q:0<=dJ x i) :
  Calls prog 103 #[agg #[slice D x.length H,int i64 y,string v,int i64 z,int i64 u],int i64 i] w fun e A=>∃g,e=returned (slice (some ⟨g,0,none⟩) (aQ x i).need (aQ x i).need)/\oR A g (dy x i)/\ae [] w A:=by
 obtain⟨i0,S,U,V,Y⟩:=UC BJ;have af:=hN i;have m2:=fun w=>dV (P:=prog) w 24 3 i0 _ underlying24 S U (aQ x i).need 1 V (by rw[Y];omega) (by omega);obtain⟨mc,k⟩:=bm (madeCells (int i64 0).cells ((aQ x i).need*1));have K:Xr (mc=(jF (List.replicate (aQ x i).need 0)).toArray):=cM (by rw[<-k.o,Kw]);rw[k.o]at m2;obtain⟨W,N⟩:=bm (w.alloc (.cells #[slice D x.length H,int i64 y,string v,int i64 z,int i64 u] 122));have B:=fE N.o;have f:Xr _:=fg N.o;have HS:Xr _:=hS.Yh f.o;obtain⟨p0,-⟩:=lr B;have ac:(i:Int)<x.length:=by omega
 obtain⟨g,rfl,R,-,-,q2,-⟩:=cN.step HS.o i hi;have HB:Xr _:=B;rw[nO]at Q;have H0:Xr _:=Q;have M:Xr (vD (dJ x) (aQ x i).need i []=dy x i):=rfl;generalize (aQ x i).need=n at *;generalize dy x i=P at *;have I0:Xr (oR (W.alloc (.cells mc 3)) W.heap.size (List.replicate n 0++[])):=cM (by rw[UE,K.o];exact Ui _ _);clear hS B Q;go_enter func103,ntmps103;go_upto_region 1 with fail
 rw[N.o];go_wp2;clear q2 R p0 m2
 go_loopg [7,8] n (fun ms bv kv wr=>∃(m b:Nat) (L:Xv),m<=n/\ms=m/\bv=int i64 b/\kv=int i64 ((m:Int)-1)/\b<=i/\Xr (0<=oJ (dJ x) m b)/\Xr (vD (dJ x) m b L=P)/\Xr (oR wr W.heap.size (List.replicate m 0++L))/\Xr (ae [] W wr))
 ·exact⟨n,i,[],by omega,rfl,rfl,by go_num,by omega,H0,M,I0,(ae.refl _ _).alloc _⟩
 obtain⟨m,b,L,hm,ad,rfl,rfl,hb,a,j,t,G⟩:=hrel;have J:Xr _:=f.o.trans G.o;cases m with
 | zero =>
  have HE:Xr (oR wr W.heap.size P):=by show oR wr W.heap.size P;have:=t.o;rw[<-j.o];simpa [vD] using this
  go_wp2;go_ret;exact⟨W.heap.size,rfl,HE.o,J.o⟩
 | succ q =>
  rw[oJ]at a;have l:b≠0:=fun e=>by
   have:=a.o;rw[Uf e]at this;omega
  obtain⟨c,rfl⟩:∃c,b=c+1:=⟨b-1,by omega⟩
  rw[Ud l,Vj]at a;have p:¬dJ x c<0:=fun e=>by
   have:=a.o;rw[Uf e]at this;omega
  rw[Ud p]at a;rw[vD,Vj]at j;have BR:=G.o.get HB.o (by simp);have u0:=am t.o q;have u1:wr.cell? ⟨W.heap.size,q,none⟩=some (int i64 0):=by
   rw[ah t.o];simp[jF,List.replicate_succ']
  have ai:(q:Int)<(n:Int):=by omega
  have ag:((q:Int)+1-1)=(q:Int):=by omega
  have HC:Xr (∀s,ae [] W s->Calls prog 133 #[agg #[slice (some ⟨g,0,none⟩) x.length H,int i64 y,string v,int i64 z,int i64 u],int i64 c] s fun e A=>e=returned (int i64 (dJ x c))/\ae [] s A):=fun s kx=>uV x _ H y v z u hl hN (c+1) c s (by omega) (by omega) (cN.Yh HS.o kx);have T:=xv x c;obtain⟨rn,r⟩:∃rn:Nat,dJ x c=rn:=⟨(dJ x c).toNat,by omega⟩
  rw[r]at HC j a T;rw[UR]at j a;obtain⟨X,O⟩:=bm (wr.setCell ⟨W.heap.size,q,none⟩ (int i64 (c:Int)));have d:Xr (ae [] W X):=by show ae [] W X;rw[<-O.o];exact G.o.sr1 (by simp) _
  have F:Xr (oR X W.heap.size (List.replicate q 0++c :: L)):=by
   show _=_;rw[<-O.o,ab t.o];congr 2;have:=QB q c L;rw[<-this];simp
  have BX:=d.o.get HB.o (by simp);obtain⟨x0,x1,x2,x3,x4⟩:=lr BX;have C:Xr _:=HC.o X d.o;clear r p l;go_upto_region 8 with fail
  rw[O.o];go_wp2_with (go_at_call 133;refine Ug C.o ?_;rintro e w1 ⟨rfl,Z⟩;have I:Xr _:=d.o.trans Z;have E:=(show Xr (oR w1 W.heap.size (List.replicate q 0++c :: L)) from Z.get F.o (by simp));clear Z);go_roundg q
  ·exact⟨q,rn,c :: L,by omega,rfl,rfl,by go_num,by omega,a,j,E,I⟩
  omega
def li(T:List Tk)(S:List Sm)(a:Nat)(e:Xt):Xt:=e.filter (fun x=>iI T S x a)
theorem LT(h:H<n.length):li l b k (n.take (H+1))=li l b k (n.take H)++(if iI l b n[H] k=true then [n[H]] else []):=by
 unfold li;rw[UY h,Vi];congr 1;cases a:iI l b n[H] k
 ·rw[VJ (by rw[a];simp)];rfl
 ·rw[VU (p:=fun x=>iI l b x k) a];rfl
theorem sC(a:List Tk)(A:Xu)(Y:Nat)(S:List Sm)(z:Xu)(X:Nat)(w:World)(Z:ge w I a A Y S z X)(ok:pM a S T)(hE:ig w D f)(hl:f.length<=900000000) :
  Calls prog 242 #[pointer (some ⟨I,0,none⟩),int i64 T,slice D f.length H] w fun e u=>∃b,e=returned (slice b.ao (li a S T f).length b.cap)/\ip w u b (aD (li a S T f)):=by
 have HD:Xr _:=Z;have d:Xr _:=ok.ok;have K:Xr _:=hE;have M:Xr (ip w w ⟨none,0⟩ (aD [])):=⟨Uj _ _ _ _,(by intro k hk;cases hk),ae.refl _ _⟩;obtain⟨iS,V,E,F,G⟩:=UC jN;clear Z ok hE;go_enter func242,ntmps242;go_wp2
 go_loopg [7,8] f.length (fun g o i wr=>∃(k:Nat) (b:Hd) (O:Xt),k<=f.length/\g=f.length-k/\o=slice b.ao O.length b.cap/\i=int i64 k/\O.length<=k/\Xr (O=li a S T (f.take k))/\Xr (ip w wr b (aD O)))
 ·exact⟨0,⟨none,0⟩,[],by omega,rfl,rfl,rfl,by simp,by show _=_;simp[li],M⟩
 obtain⟨k,b,O,hk,hg,rfl,rfl,hO,W,y⟩:=hrel;rcases kn k f.length with ⟨n,ac⟩ | ⟨n,-⟩
 ·obtain⟨Q,rfl,l,B⟩:=(ig.Yh K.o y.o.Yu) k f[k] (Ub n);have c:Xr _:=LT a S T f k n;rw[<-W.o]at c;have N:Xr _:=CD I T f[k] a A Y S z X wr (ge.Yh HD.o y.o.Yu) d.o.m d.o.s d.o.t d.o.v;have J:Xr (∀u,ae [] wr u->u.cell? ⟨Q,k,none⟩=some (string f[k])/\Q<u.heap.size):=fun u kw=>⟨by rw[Uw (kw.block Q l (by simp))];exact B,Ul l kw.size⟩
  generalize f[k]=x at *;obtain⟨vb,P⟩:=bm (iI a S x T);rw[P.o]at N c;cases vb
  ·have q:Xr (O=li a S T (f.take (k+1))):=(by have:=c.o;rw[Ud (by simp),UE]at this;exact this.symm);go_wp2_with (go_at_call 174;refine Ug N.o ?_;rintro e w1 ⟨rfl,r⟩;have j:Xr _:=y.o.Yh r;clear r);go_roundg (f.length-(k+1))
   ·exact⟨k+1,b,O,by omega,rfl,rfl,by go_num,by omega,q,j⟩
   omega
  ·have q:Xr (O++[x]=li a S T (f.take (k+1))):=(by have:=c.o;rw[Uf rfl]at this;exact this.symm);(go_upto_region 7 with (go_at_call 174;refine Ug N.o ?_;rintro e w1 ⟨rfl,r⟩));have j:Xr _:=y.o.Yh r;obtain⟨d0,d1⟩:=J.o w1 r;have U:=j.o.YF;have R:(aD O).n<=900000000:=(by show O.length<=_;omega);clear r B l;go_wp2_with (at_builtin;refine cI _ rfl (.tmp 24) (.tmp 29) 61 rfl iS (string ⟨#[]⟩) 16 b (aD O) [string x] underlying61 V E F G rfl UA rfl U R (by omega) rfl rfl (by simp[Value.oneCell']) ?_;intro h5 w5 p C;rw[eI]at p;have L:Xr _:=j.o.Yr C p;clear p C);go_roundg (f.length-(k+1))
   ·exact⟨k+1,h5,O++[x],by omega,rfl,by simp[aD],by go_num,by simp;omega,q,L⟩
   omega
 ·have e:k=f.length:=by omega
  subst e;have q:Xr (li a S T f=O):=cM (by rw[W.o,Vk]);go_wp2;go_ret;exact⟨b,by rw[q.o];rfl,by rw[q.o];exact y.o⟩
def Bv(T:List Tk)(S:List Sm)(a:Nat)(Y:Xt)(x:Xs):Bool:=Y.all (fun y=>eB T S x y a)
def qG(T:List Tk)(S:List Sm)(a:Nat)(E F:Xt):Bool:=(li T S a E).all (Bv T S a (li T S a F))
theorem Iy{p:Xs->Bool}(h:H<v.length)(a:p v[H]=false):v.all p=false:=by
 rw[WZ];exact⟨v[H],Uu h,by rw[a];simp⟩
theorem C0{p:Xs->Bool}(c:y=v.length)(h:∀k (a:k<v.length),k<y->p v[k]=true):v.all p=true:=by
 rw[U5];intro x b;obtain⟨k,a,e⟩:=U7 b;rw[<-e];exact h k a (by omega)
theorem A6:(li l b k n).length<=n.length:=VO _ _
theorem JY(A l:Xu)(cE Z:Nat)(a:List Tk)(r:Xu)(L:Nat)(S:List Sm)(q:Xu)(K:Nat)(w:World)(M:ge w I a r L S q K)(O:pM a S T)(hE:ig w A f)(hF:ig w l n)(hl:f.length<=900000000)(af:n.length<=900000000) :
  Calls prog 215 #[pointer (some ⟨I,0,none⟩),int i64 T,slice A f.length cE,slice l n.length Z] w fun e J=>e=returned (bool (qG a S T f n))/\ae [] w J:=by
 have HD:Xr _:=M;have V:Xr _:=O;have F:Xr _:=sC I T f A cE a r L S q K w M O hE hl;have G:Xr (∀d,ae [] w d->Calls prog 242 #[pointer (some ⟨I,0,none⟩),int i64 T,slice l n.length Z] d fun e J=>∃h',e=returned (slice h'.ao (li a S T n).length h'.cap)/\ip d J h' (aD (li a S T n))):=fun d N=>sC I T n l Z a r L S q K d (M.Yh N) O (hF.Yh N) af;have HR:Xr (qG a S T f n=(li a S T f).all (Bv a S T (li a S T n))):=rfl;have an:=A6 a S T f;have ar:=A6 a S T n;generalize li a S T f=X at *;generalize li a S T n=Y at *;clear M O hE hF;go_enter func215,ntmps215;go_upto_region 2 with (go_at_call 242;refine Ug F.o ?_;rintro e w1 ⟨h1,rfl,P⟩)
 have H:Xr _:=G.o w1 P.Yu;go_upto_region 3 with (go_at_call 242;refine Ug H.o ?_;rintro e w2 ⟨h2,rfl,Q⟩)
 have HX:Xr _:=(P.YF.srcX.Yh Q.Yu);have HY:Xr _:=Q.YF.srcX;have v:Xr _:=P.Yu.trans Q.Yu;clear P Q F G H;obtain⟨a1,c1⟩:=h1;obtain⟨a2,c2⟩:=h2;go_wp2
 go_loopg [11] X.length (fun g i wr=>∃k:Nat,k<=X.length/\g=X.length-k/\i=int i64 k/\Xr (∀j (s:j<X.length),j<k->Bv a S T Y X[j]=true)/\Xr (ae [] w2 wr))
 ·exact⟨0,by omega,rfl,rfl,(fun j _ s=>by omega),ae.refl _ _⟩
 obtain⟨k,hk,hg,rfl,HN,HK⟩:=hrel;rcases kn k X.length with ⟨B,ad⟩ | ⟨B,-⟩
 ·obtain⟨gX,eX,ac,qX⟩:=HX.o k X[k] (Ub B);replace eX:a1=some ⟨gX,0,none⟩:=eX;subst eX;have R:Xr (Bv a S T Y X[k]=false->qG a S T f n=false):=fun h=>by rw[HR.o];exact Iy k B h
  have U:Xr (Bv a S T Y X[k]=true->∀j (s:j<X.length),j<k+1->Bv a S T Y X[j]=true):=fun h j s h2=>by
   by_cases e:j=k
   ·subst e;exact h
   ·exact HN.o j s (by omega)
  generalize X[k]=x at *;go_wp2
  go_loopg [12] Y.length (fun g i wr=>∃m:Nat,m<=Y.length/\g=Y.length-m/\i=int i64 m/\Xr (∀j (s:j<Y.length),j<m->eB a S x Y[j] T=true)/\Xr (ae [] w2 wr))
  ·exact⟨0,by omega,rfl,rfl,(fun j _ s=>by omega),HK⟩
  obtain⟨m,hm,ai,rfl,E,b⟩:=hrel;rcases kn m Y.length with ⟨c,ag⟩ | ⟨c,-⟩
  ·obtain⟨gY,eY,al,qY⟩:=(ig.Yh HY.o b.o) m Y[m] (Ub c);replace eY:a2=some ⟨gY,0,none⟩:=eY;subst eY;have ax:wr.cell? ⟨gX,k,none⟩=some (string x):=(by rw[Uw (b.o.block gX ac (by simp))];exact qX);have C:Xr (∀d,ae [] wr d->Calls prog 95 #[pointer (some ⟨I,0,none⟩),string x,string Y[m],int i64 T] d fun e J=>e=returned (bool (eB a S x Y[m] T))/\ae [] d J):=fun d N=>xo I T x Y[m] a r L S q K d (ge.Yh HD.o ((v.o.trans b.o).trans N)) V.o;have t:Xr (eB a S x Y[m] T=false->Bv a S T Y x=false):=fun h=>Iy (p:=fun y=>eB a S x y T) m c h;have u:Xr (eB a S x Y[m] T=true->∀j (s:j<Y.length),j<m+1->eB a S x Y[j] T=true):=fun h j s h2=>by
    by_cases e:j=m
    ·subst e;exact h
    ·exact E.o j s (by omega)
   generalize Y[m]=y at *;obtain⟨ap,W⟩:=bm (eB a S x y T);rw[W.o]at C t u;(go_upto_region 9 with fail);go_region_with (go_at_call 95;refine(C.o _ (by exact(ae.refl [] wr).drew)).mono ?_;rintro e w3 ⟨rfl,k3⟩)
   all_goals
    have D:Xr _:=(b.o.drew).trans k3;cases ap
    ·have z:Xr _:=R.o (t.o rfl);go_wp2;go_ret;exact⟨aE z.o.symm,v.o.trans D.o⟩
    ·have z:Xr _:=u.o rfl;go_wp2;go_roundg (Y.length-(m+1))
     ·exact⟨m+1,by omega,rfl,by go_num,z,D⟩
     omega
  ·have e:m=Y.length:=(by omega);have z:Xr _:=U.o (C0 e E.o);have ag:¬(m:Int)<Y.length:=(by omega);go_wp2;go_roundg (X.length-(k+1))
   ·exact⟨k+1,by omega,rfl,by go_num,z,b⟩
   omega
 ·have e:k=X.length:=by omega
  have z:Xr (qG a S T f n=true):=cM (by rw[HR.o];exact C0 e HN.o);have ad:¬(k:Int)<X.length:=by omega
  go_wp2;go_ret;exact⟨aE z.o.symm,v.o.trans HK.o⟩
structure Sl where
 ao:Xu
 cap:Nat
 L:Xt
def GM(s:Sl):List Value:=[slice s.ao s.L.length s.cap]
theorem xc(s:Sl):(GM s).length=1:=rfl
def mg(A:List Sl):ew:=lm 61 1 GM A
theorem rO(L:List Sl)(x:Sl):(⟨(mg L).e,(mg L).size,(mg L).n+1,(mg L).xs++GM x⟩:ew)=mg (L++[x]):=gU _ _ _ _ _
structure qu(w:World)(s:Sl):Prop where
 src:∀(k:Nat) (x:Xs),s.L[k]?=some x->∃g o,s.ao=some ⟨g,o,none⟩/\g<w.heap.size/\w.cell? ⟨g,o+k,none⟩=some (string x)
 nil:s.ao=none->s.L.length=0/\s.cap=0
 le:s.L.length<=s.cap
theorem qu.Yh{b:Sl}(h:qu d b)(k:ae [] d s):qu s b :=
 ⟨fun j x f=>by
  obtain⟨g,o,e,a,c⟩:=h.src j x f;exact⟨g,o,e,Ul a k.size,by rw[Uw (k.block g a (by simp))];exact c⟩,h.nil,h.le⟩
def qk(w:World)(A:List Sl):Prop:=∀s∈A,qu w s
theorem qk.Yh{A:List Sl}(h:qk d A)(k:ae [] d s):qk s A:=fun b a=>(h b a).Yh k
theorem JF:(⟨k,L,none⟩:Addr).add H=⟨k,L+H,none⟩:=by
 simp only[Addr.add];split
 ·next h=>subst h;rfl
 ·rfl
theorem qu.cells{s:Sl}(h:qu d s):∀b,s.ao=some b->∀j u,(dm s.L)[j]?=some u->d.cell? (b.add j)=some u:=by
 intro b e j u a;rw[dm,UL]at a;cases f:s.L[j]? with
 | none=>rw[f]at a;cases a
 | some x =>
  rw[f]at a;cases a
  obtain⟨g,o,i,-,c⟩:=h.src j x f;rw[e]at i;cases i
  rw[JF];exact c
theorem ip.sl(a:ip d s c (aD v)):qu s ⟨c.ao,c.cap,v⟩ :=
 ⟨fun k x i=>by
  obtain⟨g,e,f,b⟩:=a.YF.srcX k x i;exact⟨g,0,e,f,by rw[V3];exact b⟩,a.none,a.le⟩
def nr(V:Xt)(x:Xs):Nat:=V.findIdx (fun y=>(y.toList==x.toList))
def vu(V:Xt)(A:List Xt)(x:Xs):Xt:=if nr V x<V.length then A.getD (nr V x) [] else [x]
def ed(V:Xt)(A:List Xt)(e:Xt):Xt:=e.flatMap (vu V A)
theorem PU(c:y<v.length)(h:(v[y].toList==u.toList)=true)(b:∀j (a:j<v.length),j<y->(v[j].toList==u.toList)=false):nr v u=y:=by
 unfold nr;rw[List.findIdx_eq c];exact⟨h,fun j a=>b j (by omega) a⟩
theorem Nq(d:y=v.length)(b:∀j (a:j<v.length),j<y->(v[j].toList==u.toList)=false):nr v u=v.length:=by
 unfold nr;rw[List.findIdx_eq_length];intro f c;obtain⟨j,a,e⟩:=U7 c;rw[<-e];exact b j a (by omega)
theorem N1(A:List Xt)(e:Xt)(k:Nat)(h:k<e.length):ed n A (e.take (k+1))=ed n A (e.take k)++vu n A e[k]:=by
 unfold ed;rw[UY h,Vz];simp
def TO:Sl:=⟨none,0,[]⟩
def gM(A:List Sl)(i:Nat):Sl:=A.getD i TO
theorem Jm(A:List Sl)(i:Nat)(h:i<A.length):A[i]?=some (gM A i):=by
 unfold gM;rw[Uc,Ub h];rfl
theorem kD(A:List Sl)(i:Nat)(h:i<A.length):gM A i∈A:=Vq (Jm A i h)
theorem cN.sl{A:List Sl}(h:cN d z0 1 GM A)(k:Nat)(b:k<A.length):∃g,z0=some ⟨g,0,none⟩/\g<d.heap.size/\d.cell? ⟨g,k,none⟩=some (slice (gM A k).ao (gM A k).L.length (gM A k).cap):=by
 obtain⟨g,e,a,c⟩:=h k _ (Jm A k b);refine⟨g,e,a,?_⟩;have:=c 0 _ rfl;simpa using this
theorem ym(A:List Sl)(k:Nat)(h:k<A.length):(A.map (·.L)).getD k []=(gM A k).L:=by
 unfold gM;rw[Uc,Uc,UL,Ub h];rfl
theorem Em(A:List Sl)(t:Xu)(cA:Nat)(E:Xt)(ac:Xu)(cE:Nat)(w:World)(hV:ig w D f)(hA:cN w t 1 GM A)(af:qk w A)(bg:f.length<=A.length)(be:A.length<=100000)(hE:ig w ac E)(bf:E.length<=10000)(ag:∀s∈A,s.L.length<=10000) :
  Calls prog 180 #[agg #[slice D f.length H,slice t A.length cA],slice ac E.length cE] w fun e p=>∃c,e=returned (slice c.ao (ed f (A.map (·.L)) E).length c.cap)/\ip w p c (aD (ed f (A.map (·.L)) E)):=by
 obtain⟨W,HW⟩:=bm (w.alloc (.cells #[slice D f.length H,slice t A.length cA] 271));have BW:=fE HW.o;have S:Xr _:=fg HW.o;have HB:Xr _:=BW;have HV:Xr _:=hV;have HA:Xr _:=hA;have ax:Xr _:=af;have HE:Xr _:=hE;have a2:Xr _:=ag;obtain⟨iS,an,B,C,F⟩:=UC jN;have V:Xr (([]:Xt)=ed f (A.map (·.L)) (E.take 0)):=cM (by simp[ed]);obtain⟨M,T⟩:=bm (A.map (·.L));rw[T.o]at V ⊢;have a1:Xr (∀k,k<A.length->M.getD k []=(gM A k).L):=fun k hk=>by rw[<-T.o];exact ym A k hk
 clear hV hA af hE ag;have az:Xr (∀wr,ae [] w wr->wr.heap[w.heap.size]?=W.heap[w.heap.size]?->wr.cell? ⟨w.heap.size,0,none⟩=some (slice D f.length H)/\wr.cell? ⟨w.heap.size,1,none⟩=some (slice t A.length cA)/\w.heap.size<wr.heap.size):=fun wr _ e=>by
  rw[HB.o]at e;exact⟨by rw[ah e];rfl,by rw[ah e];rfl,aj e⟩
 go_enter func180,ntmps180;go_upto_region 1 with fail
 rw[HW.o];go_wp2
 go_loopg [5,6] E.length (fun g o i wr=>∃(k:Nat) (c:Hd) (O:Xt),k<=E.length/\g=E.length-k/\o=slice c.ao O.length c.cap/\i=int i64 k/\O.length<=10000*k/\Xr (O=ed f M (E.take k))/\Xr (ip W wr c (aD O)))
 ·exact⟨0,⟨none,0⟩,[],by omega,rfl,rfl,rfl,by simp,V,⟨Uj _ _ _ _,(by intro k hk;cases hk),ae.refl _ _⟩⟩
 obtain⟨k,c,O,hk,hg,rfl,rfl,hO,HO,Y⟩:=hrel;rcases kn k E.length with ⟨Q,bo⟩ | ⟨Q,-⟩
 ·obtain⟨gE,rfl,al,a3⟩:=HE.o k E[k] (Ub Q);have K:Xr _:=N1 f M E k Q;rw[<-HO.o]at K;have a0:Xr (∀p,ae [] w p->p.cell? ⟨gE,k,none⟩=some (string E[k])/\gE<p.heap.size):=fun p kw=>⟨by rw[Uw (kw.block gE al (by simp))];exact a3,Ul al kw.size⟩
  generalize E[k]=x at *;have X:Xr (vu f M x=if nr f x<f.length then M.getD (nr f x) [] else [x]):=rfl;go_wp2
  go_loopg [7] (f.length) (fun g i wr=>∃q:Nat,q<=f.length/\g=f.length-q/\i=int i64 q/\Xr (∀j (hj:j<f.length),j<q->(f[j].toList==x.toList)=false)/\Xr (ip W wr c (aD O)))
  ·exact⟨0,by omega,rfl,rfl,(fun j _ hj=>by omega),Y⟩
  obtain⟨q,hq,bk,rfl,J,l⟩:=hrel;have d:Xr _:=S.o.trans l.o.Yu;have aS:Xr _:=(l.o.Yu.get HB.o (by simp));obtain⟨b0,b1,bj⟩:=az.o wr d.o (by rw[aS.o,HB.o]);obtain⟨d0,d1⟩:=a0.o wr d.o;rcases kn q f.length with ⟨v,a7⟩ | ⟨v,-⟩
  ·obtain⟨gV,eV,bl,bd⟩:=(ig.Yh HV.o d.o) q f[q] (Ub v);subst eV;have Z:Xr ((f[q].toList==x.toList)=true->nr f x=q):=fun h=>PU v h J.o;have U:Xr ((f[q].toList==x.toList)=false->∀j (hj:j<f.length),j<q+1->(f[j].toList==x.toList)=false):=fun h j hj h2=>by
    by_cases e:j=q
    ·subst e;exact h
    ·exact J.o j hj (by omega)
   generalize f[q]=y at *;cases hy:(y.toList==x.toList)
   ·have HM:Xr _:=U.o hy;(go_upto_region 6 with fail);go_quiet (fail);have a:Xr _:=l.o.Yh ((ae.refl [] wr).drewN nq);go_wp2;go_roundg (f.length-(q+1))
    ·exact⟨q+1,by omega,rfl,by go_num,HM,a⟩
    omega
   ·have ap:=Z.o hy;have u:q<A.length:=(by omega);have bc:(q:Int)<A.length:=(by omega);obtain⟨gA,eA,ai,ad⟩:=cN.sl (cN.Yh HA.o d.o) q u;subst eA;have N:Xr _:=(qk.Yh ax.o d.o) (gM A q) (kD A q u);have ba:=a2.o (gM A q) (kD A q u);have r:Xr (O++(gM A q).L=ed f M (E.take (k+1))):=by
     show _=_;rw[K.o,X.o,ap,Uf v,a1.o q u]
    have aT:Xr (∀p,ae [] wr p->p.cell? ⟨gA,q,none⟩=some (slice (gM A q).ao (gM A q).L.length (gM A q).cap)/\gA<p.heap.size):=fun p kw=>⟨by rw[Uw (kw.block gA ai (by simp))];exact ad,Ul ai kw.size⟩
    clear ap;generalize gM A q=s at *;obtain⟨ar,G,sL⟩:=s;simp only at ad N ba r aT;(go_upto_region 6 with fail);go_quiet (fail);have R:=(ae.refl [] wr).drewN nq;have a:Xr _:=l.o.Yh R;have z:Xr _:=qu.Yh N.o R;have a5:Xr _:=z.o.cells;have a6:Xr (ar=none->sL.length=0/\G=0):=z.o.nil;have P:=a.o.YF;clear R N;go_wp2_with (at_builtin;refine dW _ rfl (.tmp 38) (.tmp 43) 61 rfl iS (string ⟨#[]⟩) 16 c (aD O) underlying61 an B C F rfl UA rfl P ar sL.length G (dm sL) rfl (by simp[aD,dm]) a6.o a5.o (mQ sL) (by simp only[aD];omega) (by omega) ?_;intro h5 w5 b m;rw[Ev]at b;have I:Xr _:=a.o.Yr m b;clear b m);go_roundg (E.length-(k+1))
    ·exact⟨k+1,h5,O++sL,by omega,rfl,by simp[aD],by go_num,by simp;omega,r,I⟩
    omega
  ·have eq:q=f.length:=(by omega);have a7:decide ((q:Int)<f.length)=false:=Vx (by omega);have r:Xr (O++[x]=ed f M (E.take (k+1))):=by
    show _=_;rw[K.o,X.o,Nq eq J.o,Ud (by omega)]
   (go_upto_region 6 with fail);go_quiet (fail);have R:=(ae.refl [] wr).drewN nq;have a:Xr _:=l.o.Yh R;have P:=a.o.YF;have a4:(aD O).n<=900000000:=(by show O.length<=_;omega);clear R;go_wp2_with (at_builtin;refine cI _ rfl (.tmp 45) (.tmp 50) 61 rfl iS (string ⟨#[]⟩) 16 c (aD O) [string x] underlying61 an B C F rfl UA rfl P a4 (by omega) rfl rfl (by simp[Value.oneCell']) ?_;intro h5 w5 b m;rw[eI]at b;have I:Xr _:=a.o.Yr m b;clear b m);go_roundg (E.length-(k+1))
   ·exact⟨k+1,h5,O++[x],by omega,rfl,by simp[aD],by go_num,by simp;omega,r,I⟩
   omega
 ·have e:k=E.length:=by omega
  subst e;have HM:Xr (ed f M E=O):=cM (by rw[HO.o,Vk]);go_wp2;go_ret;exact⟨c,by rw[HM.o];rfl,by rw[HM.o];exact Y.o.base S.o⟩
def sx(S:List Sm)(hs:Xv)(i:Nat):Bool:=((aq S (hs.getD i 0)).k.toList == [36,102])
def ta(S:List Sm)(hs:Xv)(k:Nat):Xv:=(List.range k).filter (sx S hs)
def bb(T:List Tk)(S:List Sm)(j:Nat):Xt:=bA T (aq S j).h
def bI(T:List Tk)(S:List Sm)(hs:Xv)(k:Nat):Xt:=(ta S hs k).map (fun i=>(bb T S (hs.getD i 0)).getD 1 ⟨#[]⟩)
def bt(S:List Sm)(hs:Xv)(M:List Xt)(k:Nat):List Xt:=(ta S hs k).map (fun i=>(M.getD i []).drop 1)
theorem Le:ta b M (H+1)=ta b M H++(if sx b M H=true then [H] else []):=iK _ _
theorem FO:(prog.info? 61).map (fun i=>(i.zero,i.size,i.bytes))=some (some (slice none 0 0),1,24):=by kernel_rfl
structure Mf(w wr:World)(V:Xt)(hv:Hd)(B:List Sl)(hb:Hd):Prop where
 r:wr.heap[w.heap.size]?=some (.cells #[slice none 0 0,slice none 0 0] 271)
 c:wr.heap[w.heap.size+1]?=some (.cells #[slice hv.ao V.length hv.cap,slice hb.ao B.length hb.cap] 271)
 v:aB wr hv (aD V)
 b:aB wr hb (mg B)
 fv:∀k,hv.Yv=some k->w.heap.size+1<k
 fb:∀k,hb.Yv=some k->w.heap.size+1<k
 ap:∀k,hv.Yv=some k->hb.Yv≠some k
 s:qk w B
 Yu:ae [] w wr
section
variable {w wr w5:World} {V V':Xt} {hv hb h5:Hd} {B B':List Sl}
theorem Mf.Yh(a:Mf w wr V hv B hb)(k:ae [] wr w5):Mf w w5 V hv B hb :=
 ⟨k.get a.r (by simp),k.get a.c (by simp),a.v.Yh k,a.b.Yh k,a.fv,a.fb,a.ap,a.s,a.Yu.trans k⟩
theorem DC(f:∀k,c.Yv=some k->y<k)(b:y<wr.heap.size)(g:bJ wr w5 c h5):∀k,h5.Yv=some k->y<k:=fun k a=>by
 rcases g.Yv with e | ⟨q,e,d⟩
 ·exact f k (by rw[<-e];exact a)
 ·rw[e]at a;cases a;omega
theorem xW{h o:Hd}{r:ew}(c:∀k,h.Yv=some k->o.Yv≠some k)(d:aB wr o r)(g:bJ wr w5 h h5):∀k,h5.Yv=some k->o.Yv≠some k:=fun k b a=>by
 rcases g.Yv with e | ⟨q,e,f⟩
 ·exact c k (by rw[<-e];exact b) a
 ·rw[e]at b;cases b;have:=d.lt a;omega
theorem Mf.addV(a:Mf w wr V hv B hb)(g:bJ wr w5 hv h5)(o:aB w5 h5 (aD V')){m:Nat}(f:m=V'.length):Mf w (w5.setCell ⟨w.heap.size+1,0,none⟩ (slice h5.ao m h5.cap)) V' h5 B hb:=by
 subst f;have n:∀q,q<=w.heap.size+1->q∉hv.Yv.toList:=fun q d f=>by have:=a.fv q (aR f);omega
 have u:=aj a.c;have x:=g.Yu.get a.r (n _ (by omega));have p:=g.Yu.get a.c (n _ (by omega));have l:=DC a.fv u g;have j:aB w5 hb (mg B):=g.beside a.b (fun k t e=>a.ap k e t);have i:ae [w.heap.size+1] w5 (w5.setCell ⟨w.heap.size+1,0,none⟩ (slice h5.ao V'.length h5.cap)):=(ae.refl _ _).sl1 _;have v:ae [] w w5:=qM g.Yu (fun q d=>by have:=a.fv q (aR d);omega) a.Yu;exact⟨i.get x (by simp),by rw[ab p];rfl,o.Ym (fun q d=>i.block q (o.lt d) (by simp;have:=l q d;omega)),j.Ym (fun q d=>i.block q (j.lt d) (by simp;have:=a.fb q d;omega)),l,a.fb,xW a.ap a.b g,a.s,v.sr1 (by simp) _⟩
theorem Mf.addB(a:Mf w wr V hv B hb)(g:bJ wr w5 hb h5)(o:aB w5 h5 (mg B'))(s:qk w B'){m:Nat}(i:m=B'.length):Mf w (w5.setCell ⟨w.heap.size+1,1,none⟩ (slice h5.ao m h5.cap)) V hv B' h5:=by
 subst i;have n:∀q,q<=w.heap.size+1->q∉hb.Yv.toList:=fun q d i=>by have:=a.fb q (aR i);omega
 have u:=aj a.c;have y:=g.Yu.get a.r (n _ (by omega));have t:=g.Yu.get a.c (n _ (by omega));have l:=DC a.fb u g;have p:aB w5 hv (aD V):=g.beside a.v (fun k e b=>a.ap k e b);have j:ae [w.heap.size+1] w5 (w5.setCell ⟨w.heap.size+1,1,none⟩ (slice h5.ao B'.length h5.cap)):=(ae.refl _ _).sl1 _;have x:ae [] w w5:=qM g.Yu (fun q d=>by have:=a.fb q (aR d);omega) a.Yu;have f:=xW (h:=hb) (o:=hv) (fun k e b=>a.ap k b e) a.v g;exact⟨j.get y (by simp),by rw[ab t];rfl,p.Ym (fun q d=>j.block q (p.lt d) (by simp;have:=a.fv q d;omega)),o.Ym (fun q d=>j.block q (o.lt d) (by simp;have:=l q d;omega)),a.fv,l,fun k e b=>f k b e,s,x.sr1 (by simp) _⟩
end
theorem LS{e f:Value}(h:d.heap[y]?=some (.cells #[e,f] 271))(a b:Value) :
  (d.setCell ⟨y,0,none⟩ a).cell? ⟨y,0,none⟩=some a/\((d.setCell ⟨y,0,none⟩ a).setCell ⟨y,1,none⟩ b).cell? ⟨y,1,none⟩=some b:=by
 have c:=ab h 0 a;have g:=ab c 1 b;exact⟨by rw[ah c];rfl,by rw[ah g];rfl⟩
theorem qu.tail{o n:Nat}(a:qu d ⟨some ⟨y,o,none⟩,n,v⟩):qu d ⟨some ⟨y,o+1,none⟩,n-1,v.drop 1⟩:=by
 have b:=a.le;simp only at b;refine⟨fun k x f=>?_,fun h=>(by cases h),(by simp;omega)⟩;simp only[List.getElem?_drop]at f;obtain⟨i,j,e,g,c⟩:=a.src (1+k) x f;cases e
 exact⟨y,o+1,rfl,g,by rw[show o+1+k=o+(1+k) by omega];exact c⟩
theorem qu.none0(h:z0=none->y=0):qu d ⟨z0,y,[]⟩:=⟨fun k x a=>by simp at a,fun e=>⟨rfl,h e⟩,UF _⟩
theorem Ll(a:Xv)(bk:Xu)(cH:Nat)(A:List Sl)(bj:Xu)(cA:Nat)(w:World)(hD:ge w i l t N b D H)(ok:pM l b S)(hH:qA w bk a)(y:∀j∈a,j<S)(cB:a.length<=10000)(hA:cN w bj 1 GM A)(bp:qk w A)(cz:a.length<=A.length)(hF:∀b2,b2<a.length->sx b a b2=true->1<(bb l b (a.getD b2 0)).length)(hN:∀s∈A,0<s.L.length) :
  Calls prog 178 #[pointer (some ⟨i,0,none⟩),slice bk a.length cH,slice bj A.length cA] w fun e w'=>∃p n B,e=returned (agg #[slice p.ao (bI l b a a.length).length p.cap,slice n.ao B.length n.cap])/\B.map (·.L)=bt b a (A.map (·.L)) a.length/\qk w B/\ip w w' p (aD (bI l b a a.length))/\ip w w' n (mg B):=by
 have HD:Xr _:=hD;have cb:Xr _:=ok;have cE:=ok.tm;have hn:=ok.ok.m;have HH:Xr _:=hH;have b6:Xr _:=y;have HA:Xr _:=hA;have b3:Xr _:=bp;have HF:Xr _:=hF;have HN:Xr _:=hN;obtain⟨iS,cq,bT,b0,b1⟩:=UC jN;obtain⟨iL,bx,ad,af,ag⟩:=UC FO;have S0:Xr (Mf w ((w.alloc (.cells #[slice none 0 0,slice none 0 0] 271)).alloc (.cells #[slice none 0 0,slice none 0 0] 271)) [] ⟨none,0⟩ [] ⟨none,0⟩):=by
  obtain⟨W1,Y⟩:∃W1,W1=w.alloc (.cells #[slice none 0 0,slice none 0 0] 271):=⟨_,rfl⟩
  have z1:W1.heap.size=w.heap.size+1:=by rw[Y];simp
  have k0:=fg Y.symm;have e0:=fE Y.symm;have k1:ae [] W1 (W1.alloc (.cells #[slice none 0 0,slice none 0 0] 271)):=bM.alloc _;show Mf _ _ _ _ _ _;rw[<-Y];exact⟨k1.get e0 (by simp),by rw[<-z1];exact Ui _ _,Uj _ _ _ _,Uj _ _ _ _,(by intro k hk;cases hk),(by intro k hk;cases hk),(by intro k hk;cases hk),(fun s a=>by cases a),k0.trans k1⟩
 obtain⟨M,ba⟩:=bm (A.map (·.L));rw[ba.o];have ca:Xr (∀k,k<A.length->M.getD k []=(gM A k).L):=fun k hk=>by rw[<-ba.o];exact ym A k hk
 have cc:Xr (([]:Xt)=bI l b a 0):=rfl;have b4:Xr (([]:List Sl).map (·.L)=bt b a M 0):=rfl;clear hD ok hH y hA bp hF hN;go_enter func178,ntmps178;go_wp2
 go_loopg [8] a.length (fun g b2 wr=>∃(k:Nat) (V:Xt) (p:Hd) (B:List Sl) (n:Hd),k<=a.length/\g=a.length-k/\b2=int i64 k/\(V.length<=k/\B.length<=k)/\Xr (V=bI l b a k)/\Xr (B.map (·.L)=bt b a M k)/\Xr (Mf w wr V p B n))
 ·exact⟨0,[],⟨none,0⟩,[],⟨none,0⟩,by omega,rfl,rfl,⟨Ue _,Ue _⟩,cc,b4,S0⟩
 obtain⟨k,V,p,B,n,hk,hg,rfl,⟨cF,cy⟩,HV,HB,u⟩:=hrel;have T:Xr _:=u.o.Yu;rcases kn k a.length with ⟨y,cs⟩ | ⟨y,-⟩
 ·have cr:=b6.o a[k] (Uu y);have R:a[k]<b.length:=by omega
  obtain⟨gH,rfl,cl,bl⟩:=(qA.Yh HH.o T.o) k a[k] (Ub y);have a6:Xr _:=ge.Yh HD.o T.o;obtain⟨t0,s0,ck⟩:=a6.o.cells;obtain⟨gs,rfl,cp,-,-,-,q3⟩:=a6.o.s.2 a[k] b[a[k]] (Ub R);have a0:a.getD k 0=a[k]:=by rw[Uc,Ub y];rfl
  have be:Xr (sx b a k=(b[a[k]].k.toList == [36,102])):=cM (by unfold sx;rw[a0,bX b a[k] R]);have z:Xr _:=Le b a k;have c3:((a[k]:Nat):Int)<b.length:=by omega
  have c2:(0:Int)<=((a[k]:Nat):Int):=by omega
  have a3:Xr ((b[a[k]].k.toList == [36,102])=true->∀wx,ae [] w wx->Calls prog 73 #[pointer (some ⟨i,0,none⟩),int i64 ((a[k]:Nat):Int)] wx fun e w'=>∃h',e=returned (slice h'.ao (bA l b[a[k]].h).length h'.cap)/\zX wx w' h' (bA l b[a[k]].h)):=fun h wx kx=>mA i a[k] l t N b _ H wx (ge.Yh HD.o kx) R (by omega) (by have:=cb.o.e a[k] cr;rw[<-bX b a[k] R]at this;exact this (fO h (by decide)));have a4:Xr (bA l b[a[k]].h=bb l b (a.getD k 0)):=cM (by unfold bb;rw[a0,bX b a[k] R]);rw[a4.o]at a3;have a7:Xr _:=HF.o k y;rw[be.o]at z a7;clear a4 be a0;generalize b[a[k]].k=sk at *;generalize a[k]=j at *;cases h1:(sk.toList == [36,102])
  ·rw[h1,Ud (by simp),UE]at z;have U:Xr (V=bI l b a (k+1)):=cM (by unfold bI;rw[z.o];exact HV.o);have O:Xr (B.map (·.L)=bt b a M (k+1)):=cM (by unfold bt;rw[z.o];exact HB.o);(go_upto_region 5 with fail);go_quiet (fail);have ax:Xr _:=u.o.Yh ((ae.refl [] wr).drewN nq);go_wp2;go_roundg (a.length-(k+1))
   ·exact⟨k+1,V,p,B,n,by omega,rfl,by go_num,⟨by omega,by omega⟩,U,O,ax⟩
   omega
  ·rw[h1,Uf rfl]at z;have bv:=a7.o h1;have an:Xr _:=a3.o h1;obtain⟨X,HX⟩:=bm (bb l b (a.getD k 0));rw[HX.o]at bv an;have U:Xr (V++[X.getD 1 ⟨#[]⟩]=bI l b a (k+1)):=cM (by unfold bI;rw[z.o,UJ,HV.o];simp only[List.map_cons,List.map_nil];rw[HX.o];rfl);have Z:k<A.length:=(by omega);have O:Xr (B.map (·.L)++[(gM A k).L.drop 1]=bt b a M (k+1)):=cM (by unfold bt;rw[z.o,UJ,HB.o];simp only[List.map_cons,List.map_nil];rw[ca.o k Z];rfl);(go_upto_region 5 with fail);go_quiet (fail);(go_upto_region 6 with fail);obtain⟨W2,ac⟩:=bm (wr.drewN nq);rw[ac.o];have k2:ae [] wr W2:=(by rw[<-ac.o];exact(ae.refl [] wr).drewN nq);have ax:Xr _:=u.o.Yh k2;have a2:Xr _:=an.o W2 (T.o.trans k2);have bo:W2.cell? ⟨gH,k,none⟩=some (int i64 (j:Int)):=(by rw[Uw (k2.block gH cl (by simp))];exact bl);clear t0 s0 ck q3 bl cp k2 an;(go_upto_region 7 with (go_at_call 73;refine Ug a2.o ?_;rintro e w3 ⟨h3,rfl,x3⟩));have G:Xr _:=ax.o.Yh x3.Yu;obtain⟨gX,eX,co,cX⟩:=x3.YF.srcX 1 _ (np X 1 bv);generalize X.getD 1 ⟨#[]⟩=x at *;rw[eX];have cL:(1:Int)<X.length:=(by omega);have p0:w3.cell? ⟨w.heap.size+1,0,none⟩=some (slice p.ao V.length p.cap):=(by rw[ah G.o.c];rfl);have p2:=aj G.o.c;have ch:=G.o.v;have cj:Xr ((aD V).n<=900000000):=(by show V.length<=_;omega);have ce:Xr ((aD V).n=V.length):=rfl;clear bo x3;go_region_law (refine bY w3 rfl (.tmp 36) (.tmp 40) 61 rfl iS (string ⟨#[]⟩) 16 p (aD V) [string x] underlying61 cq bT b0 b1 rfl UA (by rw[ce.o];simp[Act.eval]) ch cj.o (by omega) (by simp[Act.eval]) rfl (by simp[Value.oneCell']) ?_;intro az P w5 a1 aT;have c5:=aT.Yu.get G.o.c (fun I=>by have:=G.o.fv _ (aR I);omega);have f5:=am c5 0;have d5:w5.cell? ⟨w.heap.size+1,0,none⟩=some (slice p.ao V.length p.cap):=(by rw[ah c5];rfl);have z5:=aj c5)
   all_goals
    rw[eI]at a1;have d:Xr _:=(G.o.addV (m:=(aD V).n+1) aT a1 (by simp[aD]));obtain⟨X5,bg⟩:=bm (w5.setCell ⟨w.heap.size+1,0,none⟩ (slice az ((aD V).n+1) P));rw[bg.o]at d ⊢;clear a1 aT c5 f5 d5 z5 p0 p2 bg co cX;have b5:Xr _:=d.o.Yu;obtain⟨gA,rfl,cV,cf⟩:=cN.sl (cN.Yh HA.o b5.o) k Z;have ar:Xr _:=b3.o (gM A k) (kD A k Z);have bz:=HN.o (gM A k) (kD A k Z);have cx:(k:Int)<A.length:=by omega
    generalize gM A k=s at *;obtain⟨cu,f,F⟩:=s;obtain⟨J,K,es,-,-⟩:=ar.o.src 0 _ (np F 0 bz);replace es:cu=some ⟨J,K,none⟩:=es;subst es;have ct:=ar.o.le;simp only at cf bz ct O;have p0:X5.cell? ⟨w.heap.size+1,1,none⟩=some (slice n.ao B.length n.cap):=by rw[ah d.o.c];rfl
    have p2:=aj d.o.c;have bs:=d.o.b;have br:Xr ((mg B).n<=900000000):=(by show B.length<=_;omega);have a5:Xr ((mg B).n=B.length):=rfl;have c4:(1:Int)<=F.length:=(by omega);have cP:1<=f:=(by omega);have cR:(F.length:Int)<=(f:Int):=(by omega);by_cases bw:f=1
    ·subst bw;have HT:Xr (qu w ⟨some ⟨J,K,none⟩,0,F.drop 1⟩):=(by show qu w _;rw[Ww (by omega)];exact qu.none0 (fun e=>by cases e));have ap:Xr (([slice (some ⟨J,K,none⟩) 0 0]:List Value)=GM ⟨some ⟨J,K,none⟩,0,F.drop 1⟩):=cM (by unfold GM;rw[Ww (by omega)];rfl);(go_upto_region 8 with fail);go_region_law (refine bY X5 rfl (.tmp 44) (.tmp 50) 218 rfl iL (slice none 0 0) 24 n (mg B) [slice (some ⟨J,K,none⟩) 0 0] underlying218 bx ad af ag rfl UA (by rw[a5.o];simp[Act.eval]) bs br.o (by omega) (by simp[Act.eval]) rfl (by simp[Value.oneCell']) ?_;intro aS Q w6 E C;have W:=C.Yu.get d.o.c (fun I=>by have:=d.o.fb _ (aR I);omega);have f6:=am W 1;have d6:w6.cell? ⟨w.heap.size+1,1,none⟩=some (slice n.ao B.length n.cap):=(by rw[ah W];rfl);have z6:=aj W)
     all_goals
      rw[ap.o,rO]at E
      have ai:=(show Xr _ from d.o.addB (m:=(mg B).n+1) C E (fun s a=>by
       rcases UG.1 a with h | h
       ·exact d.o.s s h
       ·rw[Uq.1 h];exact HT.o) (by simp[mg,lm]))
      have al:Xr ((B++[(⟨some ⟨J,K,none⟩,0,F.drop 1⟩:Sl)]).map (·.L)=bt b a M (k+1)):=cM (by rw[UJ];exact O.o);clear E C W;go_wp2;go_roundg (a.length-(k+1))
      ·exact⟨k+1,V++[x],⟨az,P⟩,B++[⟨some ⟨J,K,none⟩,0,F.drop 1⟩],⟨aS,Q⟩,by omega,rfl,by go_num,⟨by simp;omega,by simp;omega⟩,U,al,ai⟩
      omega
    ·have HT:Xr _:=qu.tail ar.o;have ap:Xr (F.length-1=(F.drop 1).length):=cM (by simp);(go_upto_region 8 with fail);go_region_law (refine bY X5 rfl (.tmp 44) (.tmp 50) 218 rfl iL (slice none 0 0) 24 n (mg B) [slice (some ⟨J,K+1,none⟩) (F.length-1) (f-1)] underlying218 bx ad af ag rfl UA (by rw[a5.o];simp[Act.eval]) bs br.o (by omega) (by simp[Act.eval]) rfl (by simp[Value.oneCell']) ?_;intro aS Q w6 E C;have W:=C.Yu.get d.o.c (fun I=>by have:=d.o.fb _ (aR I);omega);have f6:=am W 1;have d6:w6.cell? ⟨w.heap.size+1,1,none⟩=some (slice n.ao B.length n.cap):=(by rw[ah W];rfl);have z6:=aj W)
     all_goals
      rw[ap.o,show([slice (some ⟨J,K+1,none⟩) (F.drop 1).length (f-1)]:List Value)=GM ⟨some ⟨J,K+1,none⟩,f-1,F.drop 1⟩ from rfl,rO]at E
      have ai:=(show Xr _ from d.o.addB (m:=(mg B).n+1) C E (fun s a=>by
       rcases UG.1 a with h | h
       ·exact d.o.s s h
       ·rw[Uq.1 h];exact HT.o) (by simp[mg,lm]))
      have al:Xr ((B++[(⟨some ⟨J,K+1,none⟩,f-1,F.drop 1⟩:Sl)]).map (·.L)=bt b a M (k+1)):=cM (by rw[UJ];exact O.o);clear E C W;go_wp2;go_roundg (a.length-(k+1))
      ·exact⟨k+1,V++[x],⟨az,P⟩,B++[⟨some ⟨J,K+1,none⟩,f-1,F.drop 1⟩],⟨aS,Q⟩,by omega,rfl,by go_num,⟨by simp;omega,by simp;omega⟩,U,al,ai⟩
      omega
 ·have e:k=a.length:=by omega
  subst e;have cs:¬(a.length:Int)<a.length:=by omega
  have r0:wr.cell? ⟨w.heap.size,0,none⟩=some (slice none 0 0):=by rw[ah u.o.r];rfl
  have r1:wr.cell? ⟨w.heap.size,1,none⟩=some (slice none 0 0):=by rw[ah u.o.r];rfl
  have r2:=am u.o.r 0;have r3:=am u.o.r 1;have c0:wr.cell? ⟨w.heap.size+1,0,none⟩=some (slice p.ao V.length p.cap):=by rw[ah u.o.c];rfl
  have c1:wr.cell? ⟨w.heap.size+1,1,none⟩=some (slice n.ao B.length n.cap):=by rw[ah u.o.c];rfl
  have bc:Xr (∀q,p.Yv=some q->q≠w.heap.size):=fun q I=>by have:=u.o.fv q I;omega
  have bd:Xr (∀q,n.Yv=some q->q≠w.heap.size):=fun q I=>by have:=u.o.fb q I;omega
  have bf:Xr (bI l b a a.length=V):=HV.o.symm;go_wp2;obtain⟨x0,x1⟩:=LS u.o.r (slice p.ao V.length p.cap) (slice n.ao B.length n.cap);have kf:ae [] w ((wr.setCell ⟨w.heap.size,0,none⟩ (slice p.ao V.length p.cap)).setCell ⟨w.heap.size,1,none⟩ (slice n.ao B.length n.cap)):=(T.o.sr1 (by simp) _).sr1 (by simp) _;exact Um (v:=agg #[slice p.ao V.length p.cap,slice n.ao B.length n.cap]) (by simp[results,results178,go_sem,x0,x1]) rfl ⟨p,n,B,by rw[bf.o],HB.o,u.o.s,by rw[bf.o];exact⟨(u.o.v.Yq bc.o _ _).Yq bc.o _ _,fun q I=>(by have:=u.o.fv q I;omega),kf⟩,⟨(u.o.b.Yq bd.o _ _).Yq bd.o _ _,fun q I=>(by have:=u.o.fb q I;omega),kf⟩⟩
def fV(T:List Tk)(S:List Sm)(hs:Xv)(k:Nat):Xt:=((hs.take k).filter (fun j=>((aq S j).k.toList == [36,102]))).map (fun j=>tS T ((aq S j).h+1))
def Qu(p:Xs×Xs):List Value:=[string p.1,string p.2]
theorem NZ(p:Xs×Xs):(Qu p).length=2:=rfl
def mX(L:Fs):ew:=lm 114 2 Qu L
theorem Eu(L:Fs)(x:Xs×Xs):(⟨(mX L).e,(mX L).size,(mX L).n+1,(mX L).xs++Qu x⟩:ew)=mX (L++[x]):=gU _ _ _ _ _
def kN(T:List Tk)(S:List Sm)(a:Nat)(V:Xt)(i m:Nat):Fs:=((List.range m).filter (fun j=>decide (i<j)&&eB T S (V.getD i ⟨#[]⟩) (V.getD j ⟨#[]⟩) a)).map (fun j=>(V.getD i ⟨#[]⟩,V.getD j ⟨#[]⟩))
def lU(T:List Tk)(S:List Sm)(a:Nat)(V:Xt)(k:Nat):Fs:=(List.range k).flatMap (fun i=>kN T S a V i V.length)
def mb(T:List Tk)(S:List Sm)(a:Nat):Fs:=lU T S a (fV T S (a9 T S a) (a9 T S a).length) (fV T S (a9 T S a) (a9 T S a).length).length
theorem Ei(h:L<H):kN l b k n L (H+1)=kN l b k n L H++(if eB l b (n.getD L ⟨#[]⟩) (n.getD H ⟨#[]⟩) k=true then [(n.getD L ⟨#[]⟩,n.getD H ⟨#[]⟩)] else []):=by
 unfold kN;rw[iK,UJ,Vy h,VI];split <;> rfl
theorem Ej:kN l b k n H (H+1)=[]:=by
 unfold kN;rw[Wx.2 (fun j a=>by have:=Up.1 a;simp;omega)];rfl
theorem yH:lU l b k n (H+1)=lU l b k n H++kN l b k n H n.length:=by
 unfold lU;rw[Vr,Vz];simp
theorem Gt:(kN l b k n L H).length<=H:=by
 unfold kN;rw[Uy];have:=VO (fun j=>decide (L<j)&&eB l b (n.getD L ⟨#[]⟩) (n.getD j ⟨#[]⟩) k) (List.range H);rw[VN]at this;exact this
theorem Ge(h:H<M.length):fV l b M (H+1)=fV l b M H++(if((aq b M[H]).k.toList == [36,102])=true then [tS l ((aq b M[H]).h+1)] else []):=by
 unfold fV;rw[UY h,Vi,UJ];congr 1;cases a:((aq b M[H]).k.toList == [36,102])
 ·rw[VJ (by rw[a];simp)];rfl
 ·rw[VU (p:=fun j=>((aq b j).k.toList == [36,102])) a];rfl
theorem PY:(prog.info? 114).map (fun i=>(i.zero,i.size,i.bytes))=some (some (agg #[string ⟨#[]⟩,string ⟨#[]⟩]),2,32):=by kernel_rfl
theorem Gq(w:World)(hD:ge w i l t N b D H)(ok:pM l b S)(hn:S<b.length)(hE:dS l (aq b S).h) :
  Calls prog 65 #[pointer (some ⟨i,0,none⟩),int i64 S] w fun e a=>∃G,e=returned (slice G.ao (mb l b S).length G.cap)/\ip w a G (mX (mb l b S)):=by
 have HD:Xr _:=hD;have a5:Xr _:=ok;have cx:=ok.sm;have cy:=ok.tm;have a2:Xr _:=rG i S l t N b D H w hD ok hn hE;have c4:=nE l b S;have b6:Xr _:=qK l b S;have b1:Xr (mb l b S=lU l b S (fV l b (a9 l b S) (a9 l b S).length) (fV l b (a9 l b S) (a9 l b S).length).length):=rfl;obtain⟨iS,cq,br,bs,bv⟩:=UC jN;obtain⟨iP,cp,bl,bo,bp⟩:=UC PY;clear hD ok;generalize a9 l b S=c at *;go_enter func65,ntmps65;go_upto_region 3 with (go_at_call 63;refine Ug a2.o ?_;rintro e C ⟨h1,rfl,x1⟩)
 have a3:Xr _:=x1.Yu;have b4:Xr _:=x1.YF.srcN;have bz:Xr (ip C C ⟨none,0⟩ (aD [])):=⟨Uj _ _ _ _,(by intro k hk;cases hk),ae.refl _ _⟩;clear x1 a2;obtain⟨a1,c1⟩:=h1;have b5:Xr (([]:Xt)=fV l b c 0):=cM (by simp[fV]);go_wp2
 go_loopg [5,7] c.length (fun g o bw wr=>∃(k:Nat) (G:Hd) (V:Xt),k<=c.length/\g=c.length-k/\o=slice G.ao V.length G.cap/\bw=int i64 k/\V.length<=k/\Xr (V=fV l b c k)/\Xr (ip C wr G (aD V)))
 ·exact⟨0,⟨none,0⟩,[],by omega,rfl,rfl,rfl,by simp,b5,bz⟩
 obtain⟨k,G,V,hk,hg,rfl,rfl,cz,HV,O⟩:=hrel;have Z:Xr _:=a3.o.trans O.o.Yu;rcases kn k c.length with ⟨M,cP⟩ | ⟨M,-⟩
 ·have cr:=b6.o c[k] (Uu M);have ax:c[k]<b.length:=by omega
  obtain⟨gH,eH,cl,cH⟩:=b4.o k c[k] (Ub M);replace eH:a1=some ⟨gH,0,none⟩:=eH;subst eH;have Y:Xr _:=ge.Yh HD.o a3.o;obtain⟨t0,s0,hb⟩:=Y.o.cells;obtain⟨K,rfl,bg,-,-,q2,q3⟩:=Y.o.s.2 c[k] b[c[k]] (Ub ax);have B:Xr _:=Ge l b c k M;rw[<-HV.o,<-bX b c[k] ax]at B;have bx:Xr ((b[c[k]].k.toList == [36,102])=true->b[c[k]].h+1<l.length):=fun h=>by have:=a5.o.f c[k] cr;rw[<-bX b c[k] ax]at this;exact this h
  have cL:((c[k]:Nat):Int)<b.length:=by omega
  have cF:(0:Int)<=((c[k]:Nat):Int):=by omega
  generalize b[c[k]].k=sk at *;generalize b[c[k]].h=r at *;generalize c[k]=j at *;have W:Xr (∀a:World,C.heap.size<=a.heap.size->(∀q,q<C.heap.size->a.heap[q]?=C.heap[q]?)->(a.cell? ⟨i,0,none⟩=some (slice t l.length N)/\a.cell? ⟨i,1,none⟩=some (slice (some ⟨K,0,none⟩) b.length H)/\a.cell? ⟨gH,k,none⟩=some (int i64 (j:Int))/\a.cell? ⟨K,j*4+2,none⟩=some (int i64 (r:Int))/\a.cell? ⟨K,j*4+3,none⟩=some (string sk))/\i<a.heap.size/\K<a.heap.size/\gH<a.heap.size):=fun a hz d =>
   ⟨⟨by rw[Uw (d i hb)];exact t0,by rw[Uw (d i hb)];exact s0,by rw[Uw (d gH cl)];exact cH,by rw[Uw (d K bg)];exact q2,by rw[Uw (d K bg)];exact q3⟩,by omega,by omega,by omega⟩
  clear t0 s0 q2 q3 cH;have b3:Xr (∀q,q<C.heap.size->wr.heap[q]?=C.heap[q]?):=fun q d=>O.o.Yu.block q d (by simp);obtain⟨⟨t0,s0,cH,q2,q3⟩,be,R,Q⟩:=W.o wr O.o.Yu.size b3.o;cases h1:(sk.toList == [36,102])
  ·have F:Xr (V=fV l b c (k+1)):=(by have:=B.o;rw[h1,Ud (by simp),UE]at this;exact this.symm);(go_upto_region 6 with fail);go_quiet (fail);have z:Xr _:=O.o.Yh ((ae.refl [] wr).drewN nq);go_wp2;go_roundg (c.length-(k+1))
   ·exact⟨k+1,G,V,by omega,rfl,rfl,by go_num,by omega,F,z⟩
   omega
  ·have F:Xr (V++[tS l (r+1)]=fV l b c (k+1)):=(by have:=B.o;rw[h1,Uf rfl]at this;exact this.symm);have ck:=bx.o h1;obtain⟨gT,rfl,co,u0,-⟩:=Y.o.t.2 (r+1) _ (jf l (r+1) ck);replace u0:C.cell? ⟨gT,(r+1)*5,none⟩=some (string (tS l (r+1))):=u0;generalize tS l (r+1)=v at *;have a0:Xr (∀a:World,(∀q,q<C.heap.size->a.heap[q]?=C.heap[q]?)->a.cell? ⟨gT,(r+1)*5,none⟩=some (string v)):=fun a d=>by rw[Uw (d gT co)];exact u0
   have cA:(r:Int)+1<l.length:=(by omega);have c3:IntKind.i64.wrap ((r:Int)+1)=(r:Int)+1:=(by rw[Vv];omega);have c2:((r:Int)+1).toNat=r+1:=(by omega);have c0:(0:Int)<=(r:Int)+1:=(by omega);(go_upto_region 6 with fail);go_quiet (fail);(go_upto_region 7 with fail);obtain⟨W2,a6⟩:=bm (wr.drewN nq);rw[a6.o];have k2:ae [] wr W2:=(by rw[<-a6.o];exact(ae.refl [] wr).drewN nq);have z:Xr _:=O.o.Yh k2;have af:Xr (∀q,q<C.heap.size->W2.heap[q]?=C.heap[q]?):=fun q d=>z.o.Yu.block q d (by simp);clear t0 s0 cH q2 q3 be R Q u0;obtain⟨⟨t0,s0,cH,q2,-⟩,be,R,Q⟩:=W.o W2 z.o.Yu.size af.o;have u0:=a0.o W2 af.o;have al:=z.o.YF;have cj:Xr ((aD V).n<=900000000):=by show V.length<=_;omega
   have HS:Xr (∀(A:World) (h5:Hd),bJ W2 A G h5->(A.cell? ⟨i,0,none⟩=some (slice (some ⟨gT,0,none⟩) l.length N)/\A.cell? ⟨i,1,none⟩=some (slice (some ⟨K,0,none⟩) b.length H)/\A.cell? ⟨gH,k,none⟩=some (int i64 (j:Int))/\A.cell? ⟨K,j*4+2,none⟩=some (int i64 (r:Int))/\A.cell? ⟨gT,(r+1)*5,none⟩=some (string v))):=fun A h5 gr=>by
    have bj:∀q,q<C.heap.size->A.heap[q]?=C.heap[q]?:=fun q d=>by
     rw[gr.Yu.block q (Ul d z.o.Yu.size) (fun hm=>by have:=O.o.far q (aR hm);omega)];exact af.o q d
    obtain⟨⟨y0,y1,y2,y3,-⟩,-⟩:=W.o A (Un z.o.Yu.size gr.Yu.size) bj;exact⟨y0,y1,y2,y3,a0.o A bj⟩
   clear k2;go_region_held3 (fun a=>a.cell? ⟨i,0,none⟩=some (slice (some ⟨gT,0,none⟩) l.length N)/\a.cell? ⟨i,1,none⟩=some (slice (some ⟨K,0,none⟩) b.length H)/\a.cell? ⟨gH,k,none⟩=some (int i64 (j:Int))/\a.cell? ⟨K,j*4+2,none⟩=some (int i64 (r:Int))/\a.cell? ⟨gT,(r+1)*5,none⟩=some (string v)) (go_keep) ((refine bY W2 (by rfl) (.tmp 33) (.tmp 53) 61 (by rfl) iS (string ⟨#[]⟩) 16 G (aD V) [string v] underlying61 cq br bs bv rfl UA (by simp[Act.eval] <;> rfl) al cj.o (by omega) (by simp[Act.eval]) rfl (by simp[Value.oneCell']) ?_;intro cb bc A az an;obtain⟨y0,y1,y2,y3,y4⟩:=HS.o A _ an));rw[eI]at az;have ad:Xr _:=z.o.Yr an az;clear az an;go_wp2;go_roundg (c.length-(k+1))
   ·exact⟨k+1,⟨cb,bc⟩,V++[v],by omega,rfl,by simp[aD],by go_num,by simp;omega,F,ad⟩
   omega
 ·have e:k=c.length:=by omega
  subst e;have b2:Xr (mb l b S=lU l b S V V.length):=cM (by rw[b1.o,HV.o]);have ag:Xr _:=O.o.YF.srcX;have a4:Xr (ip wr wr ⟨none,0⟩ (mX [])):=⟨Uj _ _ _ _,(by intro k hk;cases hk),ae.refl _ _⟩;have bT:Xr (([]:Fs)=lU l b S V 0):=cM (by simp[lU]);obtain⟨va,vc⟩:=G;obtain⟨w2,ai⟩:=bm (wr);rw[ai.o];rw[ai.o]at ag a4 Z;clear HV O ai;go_wp2
  go_loopg [8,9] V.length (fun g o bw w3=>∃(m:Nat) (h2:Hd) (L:Fs),m<=V.length/\g=V.length-m/\o=slice h2.ao L.length h2.cap/\bw=int i64 m/\L.length<=10000*m/\Xr (L=lU l b S V m)/\Xr (ip w2 w3 h2 (mX L)))
  ·exact⟨0,⟨none,0⟩,[],by omega,rfl,rfl,rfl,by simp,bT,a4⟩
  obtain⟨m,h2,L,hm,cB,rfl,rfl,hL,HL,a7⟩:=hrel;rcases kn m V.length with ⟨T,cR⟩ | ⟨T,-⟩
  ·have b0:Xr (L=lU l b S V m++kN l b S V m (m+1)):=(by show _=_;rw[Ej,UE];exact HL.o);obtain⟨J,eV,bf,ce⟩:=ag.o m _ (np V m T);replace eV:va=some ⟨J,0,none⟩:=eV;subst eV;go_wp2
   go_loopg [8,10] (V.length-(m+1)) (fun g o bw w3=>∃(q:Nat) (P:Hd) (E:Fs),(m<q/\q<=V.length)/\g=V.length-q/\o=slice P.ao E.length P.cap/\bw=int i64 q/\E.length<=10000*m+q/\Xr (E=lU l b S V m++kN l b S V m q)/\Xr (ip w2 w3 P (mX E)))
   ·exact⟨m+1,h2,L,⟨by omega,by omega⟩,rfl,rfl,by go_num,by omega,b0,a7⟩
   obtain⟨q,P,E,⟨cs,cV⟩,cE,rfl,rfl,cu,ac,I⟩:=hrel;rcases kn q V.length with ⟨U,cX⟩ | ⟨U,-⟩
   ·obtain⟨ct,cf,-,ba⟩:=ag.o q _ (np V q U);cases cf
    have B:Xr _:=Ei l b S V m q cs;have aT:Xr (∀wx,ae [] w2 wx->Calls prog 95 #[pointer (some ⟨i,0,none⟩),string (V.getD m ⟨#[]⟩),string (V.getD q ⟨#[]⟩),int i64 S] wx fun e a=>e=returned (bool (eB l b (V.getD m ⟨#[]⟩) (V.getD q ⟨#[]⟩) S))/\ae [] wx a):=fun wx kx=>xo i S _ _ l t N b D H wx (ge.Yh HD.o (Z.o.trans kx)) a5.o;have X:Xr (∀a:World,w2.heap.size<=a.heap.size->(∀q,q<w2.heap.size->a.heap[q]?=w2.heap[q]?)->a.cell? ⟨J,m,none⟩=some (string (V.getD m ⟨#[]⟩))/\a.cell? ⟨J,q,none⟩=some (string (V.getD q ⟨#[]⟩))/\J<a.heap.size):=fun a hz d=>⟨by rw[Uw (d J bf)];exact ce,by rw[Uw (d J bf)];exact ba,by omega⟩
    generalize V.getD m ⟨#[]⟩=x at *;generalize V.getD q ⟨#[]⟩=y at *;obtain⟨ap,ca⟩:=bm (eB l b x y S);rw[ca.o]at aT B;clear ba;obtain⟨v0,v1,bk⟩:=X.o wr I.o.Yu.size (fun q d=>I.o.Yu.block q d (by simp));(go_upto_region 15 with fail);go_region_with (go_at_call 95;refine(aT.o _ (by exact I.o.Yu.drew)).mono ?_;rintro e A ⟨rfl,k5⟩)
    all_goals
     have k6:ae [] wr A:=((ae.refl [] wr).drew).trans k5;have n:Xr _:=I.o.Yh k6;clear k5 k6 v0 v1 bk;cases ap
     ·have F:Xr (E=lU l b S V m++kN l b S V m (q+1)):=(by show _=_;rw[B.o,Ud (by simp),UE];exact ac.o);go_wp2;go_roundg (V.length-(q+1))
      ·exact⟨q+1,P,E,⟨by omega,by omega⟩,rfl,rfl,by go_num,by omega,F,n⟩
      omega
     ·have F:Xr (E++[(x,y)]=lU l b S V m++kN l b S V m (q+1)):=(by show _=_;rw[B.o,Uf rfl,ac.o,Vs]);(go_upto_region 17 with fail);obtain⟨v0,v1,bk⟩:=X.o A n.o.Yu.size (fun q d=>n.o.Yu.block q d (by simp));have al:=n.o.YF;have ch:Xr ((mX E).n<=900000000):=(by show E.length<=_;omega);have s3:Xr (∀u∈([string x,string y]:List Value),u.oneCell'=true):=by intro u hu;simp only[List.mem_cons,List.not_mem_nil,or_false]at hu;rcases hu with rfl | rfl <;> rfl
      have HS:Xr (∀(w6:World) (h6:Hd),bJ A w6 P h6->w6.cell? ⟨J,m,none⟩=some (string x)/\w6.cell? ⟨J,q,none⟩=some (string y)):=fun w6 h6 gr=>by
       obtain⟨y0,y1,-⟩:=X.o w6 (Un n.o.Yu.size gr.Yu.size) (fun p hp=>by
        rw[gr.Yu.block p (Ul hp n.o.Yu.size) (fun hm=>by have:=n.o.far p (aR hm);omega)];exact n.o.Yu.block p hp (by simp))
       exact⟨y0,y1⟩
      go_region_held3 (fun a=>a.cell? ⟨J,m,none⟩=some (string x)/\a.cell? ⟨J,q,none⟩=some (string y)) (go_keep) ((refine bY A (by rfl) (.tmp 81) (.tmp 91) 111 (by rfl) iP (agg #[string ⟨#[]⟩,string ⟨#[]⟩]) 32 P (mX E) [string x,string y] underlying111 cp bl bo bp rfl Xo (by simp[Act.eval] <;> rfl) al ch.o (by omega) (by simp[Act.eval]) rfl s3.o ?_;intro cc bd w6 aS ar;obtain⟨y0,y1⟩:=HS.o w6 _ ar));rw[show([string x,string y]:List Value)=Qu (x,y) from rfl,Eu]at aS;have ad:Xr _:=n.o.Yr ar aS;clear aS ar;go_wp2;go_roundg (V.length-(q+1))
      ·exact⟨q+1,⟨cc,bd⟩,E++[(x,y)],⟨by omega,by omega⟩,rfl,by simp[mX,lm],by go_num,by simp;omega,F,ad⟩
      omega
   ·have eq:q=V.length:=(by omega);subst eq;have F:Xr (E=lU l b S V (m+1)):=cM (by rw[yH];exact ac.o);go_wp2;go_roundg (V.length-(m+1))
    ·exact⟨m+1,P,E,by omega,rfl,rfl,by go_num,by omega,F,I⟩
    omega
  ·have e:m=V.length:=(by omega);subst e;have F:Xr (mb l b S=L):=cM (by rw[b2.o,HL.o]);go_wp2;go_ret;exact⟨h2,by rw[F.o];rfl,by rw[F.o];exact a7.o.base Z.o⟩
end Go.Proofs.YtnbhnocdhbcbcaaGreat
