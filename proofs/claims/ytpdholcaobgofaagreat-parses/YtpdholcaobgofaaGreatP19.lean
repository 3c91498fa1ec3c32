import Derived.BigQuiet
import Derived.Deep.RegionLaw
import Derived.Test.YtpdholcaobgofaaGreatP18
namespace Go.Proofs.YtpdholcaobgofaaGreat
open Go.RowKit Tryz
open Value IntKind Ending
set_option maxHeartbeats 0
variable{d s:World}{y:Nat}{v:Xs}{c:Hd}{u:Xr}{z0:Xt}(I T:Nat)(f:Xs)(i S:Nat)(l:List Tk)(x:List dV)(t:Xt)(N:Nat)(b:List Sm)(k:Nat)(M:Xu)(D:Xt)(n:Xs)(L H:Nat)
def Bi(rec:Nat->Int):Nat->Nat->Xu->Xu
 | 0,_,acc=>acc
 | m+1,b,acc=>Bi rec m (rec (b-1)).toNat ((b-1) :: acc)
def pi(P:List dV)(i:Nat):Xu:=Bi (fj P) (cn P i).need i []
theorem Ts(c:Nat->Int)(m:Nat):∀b a,(Bi c m b a).length=m+a.length:=by
 induction m with
 | zero=>intro b a;simp[Bi]
 | succ m d=>intro b a;rw[Bi,d];simp;omega
theorem Pe:(pi x H).length=(cn x H).need:=by unfold pi;rw[Ts];simp
theorem Wl{c:Nat->Int}(k:∀i,c i<=(i:Int))(m:Nat):∀b a i,b<=i->0<=ux c m b->(∀q∈a,q<i)->∀q∈Bi c m b a,q<i:=by
 induction m with
 | zero=>intro b a i _ _ h;exact h
 | succ m l =>
  intro b a i n d h q f;rw[ux]at d;rw[Bi]at f;by_cases j:b=0
  ·rw[XA j]at d;omega
  ·rw[Xz j]at d;by_cases g:c (b-1)<0
   ·rw[XA g]at d;omega
   ·rw[Xz g]at d;have:=k (b-1);refine l _ _ i (by omega) d (fun q f=>?_) q f;rcases Yd.1 f with e | e
    ·omega
    ·exact h q e
theorem Th(h:0<=fj x H):∀q∈pi x H,q<H:=by
 rw[zQ]at h;exact Wl (zR x) _ _ _ H (Xy _) h (fun q a=>by cases a)
theorem Wf(m x:Nat)(L:Xu):(eR (List.replicate (m+1) 0++L)).set m (int i64 x)=eR (List.replicate m 0++x :: L):=by
 unfold eR
 induction m with
 | zero=>simp
 | succ m a=>rw[Zag,Zt,Zu,ZG,a];simp[List.replicate_succ]
theorem qI:madeCells (int i64 0).cells (H*1)=(eR (List.replicate H 0)).toArray:=by
 rw[ZN];apply Array.ext
 ·rw[YJ];simp[eR]
 ·intro i a b;have e:(int i64 0).cells=#[int i64 0]:=rfl;simp[madeCells,e,Nat.mod_one,eR]
def ce(w:World)(g:Nat)(L:Xu):Prop:=w.heap[g]?=some (.cells (eR L).toArray 3)
theorem ce.src{L:Xu}(h:ce d y L):n8 d (some ⟨y,0,none⟩) L:=by
 intro k x a;refine⟨y,rfl,ah h,?_⟩;rw[ab h];simp[eR,a]
set_option maxRecDepth 100000
theorem Pd(y:Int)(v:Xr)(z u:Int)(i:Nat)(w:World)(hl:x.length<=100000000)(hN:UH x)(hi:i<x.length)(hS:cW w D 6 mG x)(Q:0<=fj x i) :
  Calls prog 101 #[agg #[slice D x.length H,int i64 y,string v,int i64 z,int i64 u],int i64 i] w fun e A=>∃g,e=returned (slice (some ⟨g,0,none⟩) (cn x i).need (cn x i).need)/\ce A g (pi x i)/\aa [] w A:=by
 obtain⟨i0,S,U,V,Y⟩:=XV ru;have af:=hN i;have m2:=fun w=>bY (P:=prog) w 25 3 i0 _ underlying25 S U (cn x i).need 1 V (by rw[Y];omega) (by omega);obtain⟨mc,k⟩:=aP (madeCells (int i64 0).cells ((cn x i).need*1));have K:Xq (mc=(eR (List.replicate (cn x i).need 0)).toArray):=cm (by rw[<-k.o,qI]);rw[k.o]at m2;obtain⟨W,N⟩:=aP (w.alloc (.cells #[slice D x.length H,int i64 y,string v,int i64 z,int i64 u] 122));have B:=dC N.o;have f:Xq _:=dx N.o;have HS:Xq _:=hS.Zbj f.o;obtain⟨p0,-⟩:=nJ B;have ac:(i:Int)<x.length:=by omega
 obtain⟨g,rfl,R,-,-,q2,-⟩:=cW.step HS.o i hi;have HB:Xq _:=B;rw[zQ]at Q;have H0:Xq _:=Q;have M:Xq (Bi (fj x) (cn x i).need i []=pi x i):=rfl;generalize (cn x i).need=n at *;generalize pi x i=P at *;have I0:Xq (ce (W.alloc (.cells mc 3)) W.heap.size (List.replicate n 0++[])):=cm (by rw[Ya,K.o];exact XD _ _);clear hS B Q;go_enter func101,ntmps101;go_upto_region 1 with fail
 rw[N.o];go_wp2;clear q2 R p0 m2
 go_loopg [7,8] n (fun ms bv kv wr=>∃(m b:Nat) (L:Xu),m<=n/\ms=m/\bv=int i64 b/\kv=int i64 ((m:Int)-1)/\b<=i/\Xq (0<=ux (fj x) m b)/\Xq (Bi (fj x) m b L=P)/\Xq (ce wr W.heap.size (List.replicate m 0++L))/\Xq (aa [] W wr))
 ·exact⟨n,i,[],by omega,rfl,rfl,by go_num,by omega,H0,M,I0,(aa.refl _ _).alloc _⟩
 obtain⟨m,b,L,hm,ad,rfl,rfl,hb,a,j,t,G⟩:=hrel;have J:Xq _:=f.o.trans G.o;cases m with
 | zero =>
  have HE:Xq (ce wr W.heap.size P):=by show ce wr W.heap.size P;have:=t.o;rw[<-j.o];simpa [Bi] using this
  go_wp2;go_ret;exact⟨W.heap.size,rfl,HE.o,J.o⟩
 | succ q =>
  rw[ux]at a;have l:b≠0:=fun e=>by
   have:=a.o;rw[XA e]at this;omega
  obtain⟨c,rfl⟩:∃c,b=c+1:=⟨b-1,by omega⟩
  rw[Xz l,Za]at a;have p:¬fj x c<0:=fun e=>by
   have:=a.o;rw[XA e]at this;omega
  rw[Xz p]at a;rw[Bi,Za]at j;have BR:=G.o.get HB.o (by simp);have u0:=zcW t.o q;have u1:wr.cell? ⟨W.heap.size,q,none⟩=some (int i64 0):=by
   rw[ab t.o];simp[eR,List.replicate_succ']
  have ai:(q:Int)<(n:Int):=by omega
  have ag:((q:Int)+1-1)=(q:Int):=by omega
  have HC:Xq (∀s,aa [] W s->Calls prog 131 #[agg #[slice (some ⟨g,0,none⟩) x.length H,int i64 y,string v,int i64 z,int i64 u],int i64 c] s fun e A=>e=returned (int i64 (fj x c))/\aa [] s A):=fun s kx=>xj x _ H y v z u hl hN (c+1) c s (by omega) (by omega) (cW.Zbj HS.o kx);have T:=zR x c;obtain⟨rn,r⟩:∃rn:Nat,fj x c=rn:=⟨(fj x c).toNat,by omega⟩
  rw[r]at HC j a T;rw[YO]at j a;obtain⟨X,O⟩:=aP (wr.setCell ⟨W.heap.size,q,none⟩ (int i64 (c:Int)));have d:Xq (aa [] W X):=by show aa [] W X;rw[<-O.o];exact G.o.sr1 (by simp) _
  have F:Xq (ce X W.heap.size (List.replicate q 0++c :: L)):=by
   show _=_;rw[<-O.o,ae t.o];congr 2;have:=Wf q c L;rw[<-this];simp
  have BX:=d.o.get HB.o (by simp);obtain⟨x0,x1,x2,x3,x4⟩:=nJ BX;have C:Xq _:=HC.o X d.o;clear r p l;go_upto_region 8 with fail
  rw[O.o];go_wp2_with (go_at_call 131;refine Xx C.o ?_;rintro e w1 ⟨rfl,Z⟩;have I:Xq _:=d.o.trans Z;have E:=(show Xq (ce w1 W.heap.size (List.replicate q 0++c :: L)) from Z.get F.o (by simp));clear Z);go_roundg q
  ·exact⟨q,rn,c :: L,by omega,rfl,rfl,by go_num,by omega,a,j,E,I⟩
  omega
def my(T:List Tk)(S:List Sm)(a:Nat)(e:Xs):Xs:=e.filter (fun x=>mH T S x a)
theorem P9(h:H<n.length):my l b k (n.take (H+1))=my l b k (n.take H)++(if mH l b n[H] k=true then [n[H]] else []):=by
 unfold my;rw[Yc h,Yy];congr 1;cases a:mH l b n[H] k
 ·rw[Y9 (by rw[a];simp)];rfl
 ·rw[Zl (p:=fun x=>mH l b x k) a];rfl
theorem uP(a:List Tk)(A:Xt)(Y:Nat)(S:List Sm)(z:Xt)(X:Nat)(w:World)(Z:gM w I a A Y S z X)(ok:pE a S T)(hE:iB w D f)(hl:f.length<=900000000) :
  Calls prog 240 #[pointer (some ⟨I,0,none⟩),int i64 T,slice D f.length H] w fun e u=>∃b,e=returned (slice b.ao (my a S T f).length b.cap)/\iG w u b (aE (my a S T f)):=by
 have HD:Xq _:=Z;have d:Xq _:=ok.ok;have K:Xq _:=hE;have M:Xq (iG w w ⟨none,0⟩ (aE [])):=⟨XE _ _ _ _,(by intro k hk;cases hk),aa.refl _ _⟩;obtain⟨iS,V,E,F,G⟩:=XV i9;clear Z ok hE;go_enter func240,ntmps240;go_wp2
 go_loopg [7,8] f.length (fun g o i wr=>∃(k:Nat) (b:Hd) (O:Xs),k<=f.length/\g=f.length-k/\o=slice b.ao O.length b.cap/\i=int i64 k/\O.length<=k/\Xq (O=my a S T (f.take k))/\Xq (iG w wr b (aE O)))
 ·exact⟨0,⟨none,0⟩,[],by omega,rfl,rfl,rfl,by simp,by show _=_;simp[my],M⟩
 obtain⟨k,b,O,hk,hg,rfl,rfl,hO,W,y⟩:=hrel;rcases kn k f.length with ⟨n,ac⟩ | ⟨n,-⟩
 ·obtain⟨Q,rfl,l,B⟩:=(iB.Zbj K.o y.o.Zbw) k f[k] (Xv n);have c:Xq _:=P9 a S T f k n;rw[<-W.o]at c;have N:Xq _:=Fj I T f[k] a A Y S z X wr (gM.Zbj HD.o y.o.Zbw) d.o.m d.o.s d.o.t d.o.v;have J:Xq (∀u,aa [] wr u->u.cell? ⟨Q,k,none⟩=some (string f[k])/\Q<u.heap.size):=fun u kw=>⟨by rw[XJ (kw.block Q l (by simp))];exact B,XB l kw.size⟩
  generalize f[k]=x at *;obtain⟨vb,P⟩:=aP (mH a S x T);rw[P.o]at N c;cases vb
  ·have q:Xq (O=my a S T (f.take (k+1))):=(by have:=c.o;rw[Xz (by simp),Ya]at this;exact this.symm);go_wp2_with (go_at_call 172;refine Xx N.o ?_;rintro e w1 ⟨rfl,r⟩;have j:Xq _:=y.o.Zbj r;clear r);go_roundg (f.length-(k+1))
   ·exact⟨k+1,b,O,by omega,rfl,rfl,by go_num,by omega,q,j⟩
   omega
  ·have q:Xq (O++[x]=my a S T (f.take (k+1))):=(by have:=c.o;rw[XA rfl]at this;exact this.symm);(go_upto_region 7 with (go_at_call 172;refine Xx N.o ?_;rintro e w1 ⟨rfl,r⟩));have j:Xq _:=y.o.Zbj r;obtain⟨d0,d1⟩:=J.o w1 r;have U:=j.o.ZbH;have R:(aE O).n<=900000000:=(by show O.length<=_;omega);clear r B l;go_wp2_with (at_builtin;refine cQ _ rfl (.tmp 24) (.tmp 29) 61 rfl iS (string ⟨#[]⟩) 16 b (aE O) [string x] underlying61 V E F G rfl XR rfl U R (by omega) rfl rfl (by simp[Value.oneCell']) ?_;intro h5 w5 p C;rw[dy]at p;have L:Xq _:=j.o.Zbt C p;clear p C);go_roundg (f.length-(k+1))
   ·exact⟨k+1,h5,O++[x],by omega,rfl,by simp[aE],by go_num,by simp;omega,q,L⟩
   omega
 ·have e:k=f.length:=by omega
  subst e;have q:Xq (my a S T f=O):=cm (by rw[W.o,Yl]);go_wp2;go_ret;exact⟨b,by rw[q.o];rfl,by rw[q.o];exact y.o⟩
def JN(T:List Tk)(S:List Sm)(a:Nat)(Y:Xs)(x:Xr):Bool:=Y.all (fun y=>jq T S x y a)
def xl(T:List Tk)(S:List Sm)(a:Nat)(E F:Xs):Bool:=(my T S a E).all (JN T S a (my T S a F))
theorem Md{p:Xr->Bool}(h:H<v.length)(a:p v[H]=false):v.all p=false:=by
 rw[ZK];exact⟨v[H],XM h,by rw[a];simp⟩
theorem FL{p:Xr->Bool}(c:y=v.length)(h:∀k (a:k<v.length),k<y->p v[k]=true):v.all p=true:=by
 rw[YP];intro x b;obtain⟨k,a,e⟩:=Yr b;rw[<-e];exact h k a (by omega)
theorem DH:(my l b k n).length<=n.length:=YE _ _
theorem NQ(A l:Xt)(cE Z:Nat)(a:List Tk)(r:Xt)(L:Nat)(S:List Sm)(q:Xt)(K:Nat)(w:World)(M:gM w I a r L S q K)(O:pE a S T)(hE:iB w A f)(hF:iB w l n)(hl:f.length<=900000000)(af:n.length<=900000000) :
  Calls prog 213 #[pointer (some ⟨I,0,none⟩),int i64 T,slice A f.length cE,slice l n.length Z] w fun e J=>e=returned (bool (xl a S T f n))/\aa [] w J:=by
 have HD:Xq _:=M;have V:Xq _:=O;have F:Xq _:=uP I T f A cE a r L S q K w M O hE hl;have G:Xq (∀d,aa [] w d->Calls prog 240 #[pointer (some ⟨I,0,none⟩),int i64 T,slice l n.length Z] d fun e J=>∃h',e=returned (slice h'.ao (my a S T n).length h'.cap)/\iG d J h' (aE (my a S T n))):=fun d N=>uP I T n l Z a r L S q K d (M.Zbj N) O (hF.Zbj N) af;have HR:Xq (xl a S T f n=(my a S T f).all (JN a S T (my a S T n))):=rfl;have am:=DH a S T f;have an:=DH a S T n;generalize my a S T f=X at *;generalize my a S T n=Y at *;clear M O hE hF;go_enter func213,ntmps213;go_upto_region 2 with (go_at_call 240;refine Xx F.o ?_;rintro e w1 ⟨h1,rfl,P⟩)
 have H:Xq _:=G.o w1 P.Zbw;go_upto_region 3 with (go_at_call 240;refine Xx H.o ?_;rintro e w2 ⟨h2,rfl,Q⟩)
 have HX:Xq _:=(P.ZbH.srcX.Zbj Q.Zbw);have HY:Xq _:=Q.ZbH.srcX;have v:Xq _:=P.Zbw.trans Q.Zbw;clear P Q F G H;obtain⟨a1,c1⟩:=h1;obtain⟨a2,c2⟩:=h2;go_wp2
 go_loopg [11] X.length (fun g i wr=>∃k:Nat,k<=X.length/\g=X.length-k/\i=int i64 k/\Xq (∀j (s:j<X.length),j<k->JN a S T Y X[j]=true)/\Xq (aa [] w2 wr))
 ·exact⟨0,by omega,rfl,rfl,(fun j _ s=>by omega),aa.refl _ _⟩
 obtain⟨k,hk,hg,rfl,HN,HK⟩:=hrel;rcases kn k X.length with ⟨B,ad⟩ | ⟨B,-⟩
 ·obtain⟨gX,eX,ac,qX⟩:=HX.o k X[k] (Xv B);replace eX:a1=some ⟨gX,0,none⟩:=eX;subst eX;have R:Xq (JN a S T Y X[k]=false->xl a S T f n=false):=fun h=>by rw[HR.o];exact Md k B h
  have U:Xq (JN a S T Y X[k]=true->∀j (s:j<X.length),j<k+1->JN a S T Y X[j]=true):=fun h j s h2=>by
   by_cases e:j=k
   ·subst e;exact h
   ·exact HN.o j s (by omega)
  generalize X[k]=x at *;go_wp2
  go_loopg [12] Y.length (fun g i wr=>∃m:Nat,m<=Y.length/\g=Y.length-m/\i=int i64 m/\Xq (∀j (s:j<Y.length),j<m->jq a S x Y[j] T=true)/\Xq (aa [] w2 wr))
  ·exact⟨0,by omega,rfl,rfl,(fun j _ s=>by omega),HK⟩
  obtain⟨m,hm,ai,rfl,E,b⟩:=hrel;rcases kn m Y.length with ⟨c,ag⟩ | ⟨c,-⟩
  ·obtain⟨gY,eY,al,qY⟩:=(iB.Zbj HY.o b.o) m Y[m] (Xv c);replace eY:a2=some ⟨gY,0,none⟩:=eY;subst eY;have aq:wr.cell? ⟨gX,k,none⟩=some (string x):=(by rw[XJ (b.o.block gX ac (by simp))];exact qX);have C:Xq (∀d,aa [] wr d->Calls prog 93 #[pointer (some ⟨I,0,none⟩),string x,string Y[m],int i64 T] d fun e J=>e=returned (bool (jq a S x Y[m] T))/\aa [] d J):=fun d N=>zM I T x Y[m] a r L S q K d (gM.Zbj HD.o ((v.o.trans b.o).trans N)) V.o;have t:Xq (jq a S x Y[m] T=false->JN a S T Y x=false):=fun h=>Md (p:=fun y=>jq a S x y T) m c h;have u:Xq (jq a S x Y[m] T=true->∀j (s:j<Y.length),j<m+1->jq a S x Y[j] T=true):=fun h j s h2=>by
    by_cases e:j=m
    ·subst e;exact h
    ·exact E.o j s (by omega)
   generalize Y[m]=y at *;obtain⟨ap,W⟩:=aP (jq a S x y T);rw[W.o]at C t u;(go_upto_region 9 with fail);go_region_with (go_at_call 93;refine(C.o _ (by exact(aa.refl [] wr).drew)).mono ?_;rintro e w3 ⟨rfl,k3⟩)
   all_goals
    have D:Xq _:=(b.o.drew).trans k3;cases ap
    ·have z:Xq _:=R.o (t.o rfl);go_wp2;go_ret;exact⟨aH z.o.symm,v.o.trans D.o⟩
    ·have z:Xq _:=u.o rfl;go_wp2;go_roundg (Y.length-(m+1))
     ·exact⟨m+1,by omega,rfl,by go_num,z,D⟩
     omega
  ·have e:m=Y.length:=(by omega);have z:Xq _:=U.o (FL e E.o);have ag:¬(m:Int)<Y.length:=(by omega);go_wp2;go_roundg (X.length-(k+1))
   ·exact⟨k+1,by omega,rfl,by go_num,z,b⟩
   omega
 ·have e:k=X.length:=by omega
  have z:Xq (xl a S T f n=true):=cm (by rw[HR.o];exact FL e HN.o);have ad:¬(k:Int)<X.length:=by omega
  go_wp2;go_ret;exact⟨aH z.o.symm,v.o.trans HK.o⟩
structure Sl where
 ao:Xt
 cap:Nat
 L:Xs
def Le(s:Sl):List Value:=[slice s.ao s.L.length s.cap]
theorem zw(s:Sl):(Le s).length=1:=rfl
def nj(A:List Sl):eD:=lu 61 1 Le A
theorem ui(L:List Sl)(x:Sl):(⟨(nj L).e,(nj L).size,(nj L).n+1,(nj L).xs++Le x⟩:eD)=nj (L++[x]):=fT _ _ _ _ _
structure su(w:World)(s:Sl):Prop where
 src:∀(k:Nat) (x:Xr),s.L[k]?=some x->∃g o,s.ao=some ⟨g,o,none⟩/\g<w.heap.size/\w.cell? ⟨g,o+k,none⟩=some (string x)
 nil:s.ao=none->s.L.length=0/\s.cap=0
 le:s.L.length<=s.cap
theorem su.Zbj{b:Sl}(h:su d b)(k:aa [] d s):su s b :=
 ⟨fun j x f=>by
  obtain⟨g,o,e,a,c⟩:=h.src j x f;exact⟨g,o,e,XB a k.size,by rw[XJ (k.block g a (by simp))];exact c⟩,h.nil,h.le⟩
def rS(w:World)(A:List Sl):Prop:=∀s∈A,su w s
theorem rS.Zbj{A:List Sl}(h:rS d A)(k:aa [] d s):rS s A:=fun b a=>(h b a).Zbj k
theorem Nw:(⟨k,L,none⟩:Addr).add H=⟨k,L+H,none⟩:=by
 simp only[Addr.add];split
 ·next h=>subst h;rfl
 ·rfl
theorem su.cells{s:Sl}(h:su d s):∀b,s.ao=some b->∀j u,(dc s.L)[j]?=some u->d.cell? (b.add j)=some u:=by
 intro b e j u a;rw[dc,Yi]at a;cases f:s.L[j]? with
 | none=>rw[f]at a;cases a
 | some x =>
  rw[f]at a;cases a
  obtain⟨g,o,i,-,c⟩:=h.src j x f;rw[e]at i;cases i
  rw[Nw];exact c
theorem iG.sl(a:iG d s c (aE v)):su s ⟨c.ao,c.cap,v⟩ :=
 ⟨fun k x i=>by
  obtain⟨g,e,f,b⟩:=a.ZbH.srcX k x i;exact⟨g,0,e,f,by rw[Zf];exact b⟩,a.none,a.le⟩
def Au(V:Xs)(x:Xr):Nat:=V.findIdx (fun y=>(y.toList==x.toList))
def SQ(V:Xs)(A:List Xs)(x:Xr):Xs:=if Au V x<V.length then A.getD (Au V x) [] else [x]
def ke(V:Xs)(A:List Xs)(e:Xs):Xs:=e.flatMap (SQ V A)
theorem Vu(c:y<v.length)(h:(v[y].toList==u.toList)=true)(b:∀j (a:j<v.length),j<y->(v[j].toList==u.toList)=false):Au v u=y:=by
 unfold Au;rw[List.findIdx_eq c];exact⟨h,fun j a=>b j (by omega) a⟩
theorem RI(d:y=v.length)(b:∀j (a:j<v.length),j<y->(v[j].toList==u.toList)=false):Au v u=v.length:=by
 unfold Au;rw[List.findIdx_eq_length];intro f c;obtain⟨j,a,e⟩:=Yr c;rw[<-e];exact b j a (by omega)
theorem SS(A:List Xs)(e:Xs)(k:Nat)(h:k<e.length):ke n A (e.take (k+1))=ke n A (e.take k)++SQ n A e[k]:=by
 unfold ke;rw[Yc h,YZ];simp
def slD:Sl:=⟨none,0,[]⟩
def ik(A:List Sl)(i:Nat):Sl:=A.getD i slD
theorem M7(A:List Sl)(i:Nat)(h:i<A.length):A[i]?=some (ik A i):=by
 unfold ik;rw[Xw,Xv h];rfl
theorem lx(A:List Sl)(i:Nat)(h:i<A.length):ik A i∈A:=YH (M7 A i h)
theorem cW.sl{A:List Sl}(h:cW d z0 1 Le A)(k:Nat)(b:k<A.length):∃g,z0=some ⟨g,0,none⟩/\g<d.heap.size/\d.cell? ⟨g,k,none⟩=some (slice (ik A k).ao (ik A k).L.length (ik A k).cap):=by
 obtain⟨g,e,a,c⟩:=h k _ (M7 A k b);refine⟨g,e,a,?_⟩;have:=c 0 _ rfl;simpa using this
theorem AC(A:List Sl)(k:Nat)(h:k<A.length):(A.map (·.L)).getD k []=(ik A k).L:=by
 unfold ik;rw[Xw,Xw,Yi,Xv h];rfl
theorem Iq(A:List Sl)(t:Xt)(cA:Nat)(E:Xs)(ac:Xt)(cE:Nat)(w:World)(hV:iB w D f)(hA:cW w t 1 Le A)(af:rS w A)(bd:f.length<=A.length)(ba:A.length<=100000)(hE:iB w ac E)(bc:E.length<=10000)(ag:∀s∈A,s.L.length<=10000) :
  Calls prog 178 #[agg #[slice D f.length H,slice t A.length cA],slice ac E.length cE] w fun e p=>∃c,e=returned (slice c.ao (ke f (A.map (·.L)) E).length c.cap)/\iG w p c (aE (ke f (A.map (·.L)) E)):=by
 obtain⟨W,HW⟩:=aP (w.alloc (.cells #[slice D f.length H,slice t A.length cA] 271));have BW:=dC HW.o;have S:Xq _:=dx HW.o;have HB:Xq _:=BW;have HV:Xq _:=hV;have HA:Xq _:=hA;have aq:Xq _:=af;have HE:Xq _:=hE;have aT:Xq _:=ag;obtain⟨iS,am,B,C,F⟩:=XV i9;have V:Xq (([]:Xs)=ke f (A.map (·.L)) (E.take 0)):=cm (by simp[ke]);obtain⟨M,T⟩:=aP (A.map (·.L));rw[T.o]at V ⊢;have aS:Xq (∀k,k<A.length->M.getD k []=(ik A k).L):=fun k hk=>by rw[<-T.o];exact AC A k hk
 clear hV hA af hE ag;have ar:Xq (∀wr,aa [] w wr->wr.heap[w.heap.size]?=W.heap[w.heap.size]?->wr.cell? ⟨w.heap.size,0,none⟩=some (slice D f.length H)/\wr.cell? ⟨w.heap.size,1,none⟩=some (slice t A.length cA)/\w.heap.size<wr.heap.size):=fun wr _ e=>by
  rw[HB.o]at e;exact⟨by rw[ab e];rfl,by rw[ab e];rfl,ah e⟩
 go_enter func178,ntmps178;go_upto_region 1 with fail
 rw[HW.o];go_wp2
 go_loopg [5,6] E.length (fun g o i wr=>∃(k:Nat) (c:Hd) (O:Xs),k<=E.length/\g=E.length-k/\o=slice c.ao O.length c.cap/\i=int i64 k/\O.length<=10000*k/\Xq (O=ke f M (E.take k))/\Xq (iG W wr c (aE O)))
 ·exact⟨0,⟨none,0⟩,[],by omega,rfl,rfl,rfl,by simp,V,⟨XE _ _ _ _,(by intro k hk;cases hk),aa.refl _ _⟩⟩
 obtain⟨k,c,O,hk,hg,rfl,rfl,hO,HO,Y⟩:=hrel;rcases kn k E.length with ⟨Q,bj⟩ | ⟨Q,-⟩
 ·obtain⟨gE,rfl,al,a0⟩:=HE.o k E[k] (Xv Q);have K:Xq _:=SS f M E k Q;rw[<-HO.o]at K;have az:Xq (∀p,aa [] w p->p.cell? ⟨gE,k,none⟩=some (string E[k])/\gE<p.heap.size):=fun p kw=>⟨by rw[XJ (kw.block gE al (by simp))];exact a0,XB al kw.size⟩
  generalize E[k]=x at *;have X:Xq (SQ f M x=if Au f x<f.length then M.getD (Au f x) [] else [x]):=rfl;go_wp2
  go_loopg [7] (f.length) (fun g i wr=>∃q:Nat,q<=f.length/\g=f.length-q/\i=int i64 q/\Xq (∀j (hj:j<f.length),j<q->(f[j].toList==x.toList)=false)/\Xq (iG W wr c (aE O)))
  ·exact⟨0,by omega,rfl,rfl,(fun j _ hj=>by omega),Y⟩
  obtain⟨q,hq,bf,rfl,J,l⟩:=hrel;have d:Xq _:=S.o.trans l.o.Zbw;have av:Xq _:=(l.o.Zbw.get HB.o (by simp));obtain⟨b0,b1,be⟩:=ar.o wr d.o (by rw[av.o,HB.o]);obtain⟨d0,d1⟩:=az.o wr d.o;rcases kn q f.length with ⟨v,a4⟩ | ⟨v,-⟩
  ·obtain⟨gV,eV,bg,a7⟩:=(iB.Zbj HV.o d.o) q f[q] (Xv v);subst eV;have Z:Xq ((f[q].toList==x.toList)=true->Au f x=q):=fun h=>Vu v h J.o;have U:Xq ((f[q].toList==x.toList)=false->∀j (hj:j<f.length),j<q+1->(f[j].toList==x.toList)=false):=fun h j hj h2=>by
    by_cases e:j=q
    ·subst e;exact h
    ·exact J.o j hj (by omega)
   generalize f[q]=y at *;cases hy:(y.toList==x.toList)
   ·have HM:Xq _:=U.o hy;(go_upto_region 6 with fail);go_quiet (fail);have a:Xq _:=l.o.Zbj ((aa.refl [] wr).drewN nq);go_wp2;go_roundg (f.length-(q+1))
    ·exact⟨q+1,by omega,rfl,by go_num,HM,a⟩
    omega
   ·have an:=Z.o hy;have u:q<A.length:=(by omega);have a6:(q:Int)<A.length:=(by omega);obtain⟨gA,eA,ai,ad⟩:=cW.sl (cW.Zbj HA.o d.o) q u;subst eA;have N:Xq _:=(rS.Zbj aq.o d.o) (ik A q) (lx A q u);have a5:=aT.o (ik A q) (lx A q u);have r:Xq (O++(ik A q).L=ke f M (E.take (k+1))):=by
     show _=_;rw[K.o,X.o,an,XA v,aS.o q u]
    have ax:Xq (∀p,aa [] wr p->p.cell? ⟨gA,q,none⟩=some (slice (ik A q).ao (ik A q).L.length (ik A q).cap)/\gA<p.heap.size):=fun p kw=>⟨by rw[XJ (kw.block gA ai (by simp))];exact ad,XB ai kw.size⟩
    clear an;generalize ik A q=s at *;obtain⟨ap,G,sL⟩:=s;simp only at ad N a5 r ax;(go_upto_region 6 with fail);go_quiet (fail);have R:=(aa.refl [] wr).drewN nq;have a:Xq _:=l.o.Zbj R;have z:Xq _:=su.Zbj N.o R;have a2:Xq _:=z.o.cells;have a3:Xq (ap=none->sL.length=0/\G=0):=z.o.nil;have P:=a.o.ZbH;clear R N;go_wp2_with (at_builtin;refine dK _ rfl (.tmp 38) (.tmp 43) 61 rfl iS (string ⟨#[]⟩) 16 c (aE O) underlying61 am B C F rfl XR rfl P ap sL.length G (dc sL) rfl (by simp[aE,dc]) a3.o a2.o (mw sL) (by simp only[aE];omega) (by omega) ?_;intro h5 w5 b m;rw[Bd]at b;have I:Xq _:=a.o.Zbt m b;clear b m);go_roundg (E.length-(k+1))
    ·exact⟨k+1,h5,O++sL,by omega,rfl,by simp[aE],by go_num,by simp;omega,r,I⟩
    omega
  ·have eq:q=f.length:=(by omega);have a4:decide ((q:Int)<f.length)=false:=YB (by omega);have r:Xq (O++[x]=ke f M (E.take (k+1))):=by
    show _=_;rw[K.o,X.o,RI eq J.o,Xz (by omega)]
   (go_upto_region 6 with fail);go_quiet (fail);have R:=(aa.refl [] wr).drewN nq;have a:Xq _:=l.o.Zbj R;have P:=a.o.ZbH;have a1:(aE O).n<=900000000:=(by show O.length<=_;omega);clear R;go_wp2_with (at_builtin;refine cQ _ rfl (.tmp 45) (.tmp 50) 61 rfl iS (string ⟨#[]⟩) 16 c (aE O) [string x] underlying61 am B C F rfl XR rfl P a1 (by omega) rfl rfl (by simp[Value.oneCell']) ?_;intro h5 w5 b m;rw[dy]at b;have I:Xq _:=a.o.Zbt m b;clear b m);go_roundg (E.length-(k+1))
   ·exact⟨k+1,h5,O++[x],by omega,rfl,by simp[aE],by go_num,by simp;omega,r,I⟩
   omega
 ·have e:k=E.length:=by omega
  subst e;have HM:Xq (ke f M E=O):=cm (by rw[HO.o,Yl]);go_wp2;go_ret;exact⟨c,by rw[HM.o];rfl,by rw[HM.o];exact Y.o.base S.o⟩
def M1(S:List Sm)(hs:Xu)(i:Nat):Bool:=((ay S (hs.getD i 0)).k.toList == [36,102])
def Cn(S:List Sm)(hs:Xu)(k:Nat):Xu:=(List.range k).filter (M1 S hs)
def aU(T:List Tk)(S:List Sm)(j:Nat):Xs:=bC T (ay S j).h
def jc(T:List Tk)(S:List Sm)(hs:Xu)(k:Nat):Xs:=(Cn S hs k).map (fun i=>(aU T S (hs.getD i 0)).getD 1 ⟨#[]⟩)
def iE(S:List Sm)(hs:Xu)(M:List Xs)(k:Nat):List Xs:=(Cn S hs k).map (fun i=>(M.getD i []).drop 1)
theorem OZ:Cn b M (H+1)=Cn b M H++(if M1 b M H=true then [H] else []):=jm _ _
theorem J7:(prog.info? 61).map (fun i=>(i.zero,i.size,i.bytes))=some (some (slice none 0 0),1,24):=by kernel_rfl
structure Qp(w wr:World)(V:Xs)(hv:Hd)(B:List Sl)(hb:Hd):Prop where
 r:wr.heap[w.heap.size]?=some (.cells #[slice none 0 0,slice none 0 0] 271)
 c:wr.heap[w.heap.size+1]?=some (.cells #[slice hv.ao V.length hv.cap,slice hb.ao B.length hb.cap] 271)
 v:aD wr hv (aE V)
 b:aD wr hb (nj B)
 fv:∀k,hv.Zbx=some k->w.heap.size+1<k
 fb:∀k,hb.Zbx=some k->w.heap.size+1<k
 ap:∀k,hv.Zbx=some k->hb.Zbx≠some k
 s:rS w B
 Zbw:aa [] w wr
section
variable {w wr w5:World} {V V':Xs} {hv hb h5:Hd} {B B':List Sl}
theorem Qp.Zbj(a:Qp w wr V hv B hb)(k:aa [] wr w5):Qp w w5 V hv B hb :=
 ⟨k.get a.r (by simp),k.get a.c (by simp),a.v.Zbj k,a.b.Zbj k,a.fv,a.fb,a.ap,a.s,a.Zbw.trans k⟩
theorem GG(f:∀k,c.Zbx=some k->y<k)(b:y<wr.heap.size)(g:bL wr w5 c h5):∀k,h5.Zbx=some k->y<k:=fun k a=>by
 rcases g.Zbx with e | ⟨q,e,d⟩
 ·exact f k (by rw[<-e];exact a)
 ·rw[e]at a;cases a;omega
theorem Aq{h o:Hd}{r:eD}(c:∀k,h.Zbx=some k->o.Zbx≠some k)(d:aD wr o r)(g:bL wr w5 h h5):∀k,h5.Zbx=some k->o.Zbx≠some k:=fun k b a=>by
 rcases g.Zbx with e | ⟨q,e,f⟩
 ·exact c k (by rw[<-e];exact b) a
 ·rw[e]at b;cases b;have:=d.lt a;omega
theorem Qp.addV(a:Qp w wr V hv B hb)(g:bL wr w5 hv h5)(o:aD w5 h5 (aE V')){m:Nat}(f:m=V'.length):Qp w (w5.setCell ⟨w.heap.size+1,0,none⟩ (slice h5.ao m h5.cap)) V' h5 B hb:=by
 subst f;have n:∀q,q<=w.heap.size+1->q∉hv.Zbx.toList:=fun q d f=>by have:=a.fv q (aX f);omega
 have u:=ah a.c;have x:=g.Zbw.get a.r (n _ (by omega));have p:=g.Zbw.get a.c (n _ (by omega));have l:=GG a.fv u g;have j:aD w5 hb (nj B):=g.beside a.b (fun k t e=>a.ap k e t);have i:aa [w.heap.size+1] w5 (w5.setCell ⟨w.heap.size+1,0,none⟩ (slice h5.ao V'.length h5.cap)):=(aa.refl _ _).sl1 _;have v:aa [] w w5:=sX g.Zbw (fun q d=>by have:=a.fv q (aX d);omega) a.Zbw;exact⟨i.get x (by simp),by rw[ae p];rfl,o.Zbo (fun q d=>i.block q (o.lt d) (by simp;have:=l q d;omega)),j.Zbo (fun q d=>i.block q (j.lt d) (by simp;have:=a.fb q d;omega)),l,a.fb,Aq a.ap a.b g,a.s,v.sr1 (by simp) _⟩
theorem Qp.addB(a:Qp w wr V hv B hb)(g:bL wr w5 hb h5)(o:aD w5 h5 (nj B'))(s:rS w B'){m:Nat}(i:m=B'.length):Qp w (w5.setCell ⟨w.heap.size+1,1,none⟩ (slice h5.ao m h5.cap)) V hv B' h5:=by
 subst i;have n:∀q,q<=w.heap.size+1->q∉hb.Zbx.toList:=fun q d i=>by have:=a.fb q (aX i);omega
 have u:=ah a.c;have y:=g.Zbw.get a.r (n _ (by omega));have t:=g.Zbw.get a.c (n _ (by omega));have l:=GG a.fb u g;have p:aD w5 hv (aE V):=g.beside a.v (fun k e b=>a.ap k e b);have j:aa [w.heap.size+1] w5 (w5.setCell ⟨w.heap.size+1,1,none⟩ (slice h5.ao B'.length h5.cap)):=(aa.refl _ _).sl1 _;have x:aa [] w w5:=sX g.Zbw (fun q d=>by have:=a.fb q (aX d);omega) a.Zbw;have f:=Aq (h:=hb) (o:=hv) (fun k e b=>a.ap k b e) a.v g;exact⟨j.get y (by simp),by rw[ae t];rfl,p.Zbo (fun q d=>j.block q (p.lt d) (by simp;have:=a.fv q d;omega)),o.Zbo (fun q d=>j.block q (o.lt d) (by simp;have:=l q d;omega)),a.fv,l,fun k e b=>f k b e,s,x.sr1 (by simp) _⟩
end
theorem P0{e f:Value}(h:d.heap[y]?=some (.cells #[e,f] 271))(a b:Value) :
  (d.setCell ⟨y,0,none⟩ a).cell? ⟨y,0,none⟩=some a/\((d.setCell ⟨y,0,none⟩ a).setCell ⟨y,1,none⟩ b).cell? ⟨y,1,none⟩=some b:=by
 have c:=ae h 0 a;have g:=ae c 1 b;exact⟨by rw[ab c];rfl,by rw[ab g];rfl⟩
theorem su.tail{o n:Nat}(a:su d ⟨some ⟨y,o,none⟩,n,v⟩):su d ⟨some ⟨y,o+1,none⟩,n-1,v.drop 1⟩:=by
 have b:=a.le;simp only at b;refine⟨fun k x f=>?_,fun h=>(by cases h),(by simp;omega)⟩;simp only[List.getElem?_drop]at f;obtain⟨i,j,e,g,c⟩:=a.src (1+k) x f;cases e
 exact⟨y,o+1,rfl,g,by rw[show o+1+k=o+(1+k) by omega];exact c⟩
theorem su.none0(h:z0=none->y=0):su d ⟨z0,y,[]⟩:=⟨fun k x a=>by simp at a,fun e=>⟨rfl,h e⟩,XX _⟩
theorem Pa(a:Xu)(bf:Xt)(cH:Nat)(A:List Sl)(be:Xt)(cA:Nat)(w:World)(hD:gM w i l t N b D H)(ok:pE l b S)(hH:n8 w bf a)(y:∀j∈a,j<S)(cs:a.length<=10000)(hA:cW w be 1 Le A)(bk:rS w A)(cq:a.length<=A.length)(hF:∀bx,bx<a.length->M1 b a bx=true->1<(aU l b (a.getD bx 0)).length)(hN:∀s∈A,0<s.L.length) :
  Calls prog 176 #[pointer (some ⟨i,0,none⟩),slice bf a.length cH,slice be A.length cA] w fun e w'=>∃p n B,e=returned (agg #[slice p.ao (jc l b a a.length).length p.cap,slice n.ao B.length n.cap])/\B.map (·.L)=iE b a (A.map (·.L)) a.length/\rS w B/\iG w w' p (aE (jc l b a a.length))/\iG w w' n (nj B):=by
 have HD:Xq _:=hD;have b3:Xq _:=ok;have ct:=ok.tm;have hn:=ok.ok.m;have HH:Xq _:=hH;have b1:Xq _:=y;have HA:Xq _:=hA;have bz:Xq _:=bk;have HF:Xq _:=hF;have HN:Xq _:=hN;obtain⟨iS,cf,bs,bv,bw⟩:=XV i9;obtain⟨iL,bq,ad,af,ag⟩:=XV J7;have S0:Xq (Qp w ((w.alloc (.cells #[slice none 0 0,slice none 0 0] 271)).alloc (.cells #[slice none 0 0,slice none 0 0] 271)) [] ⟨none,0⟩ [] ⟨none,0⟩):=by
  obtain⟨W1,Y⟩:∃W1,W1=w.alloc (.cells #[slice none 0 0,slice none 0 0] 271):=⟨_,rfl⟩
  have z1:W1.heap.size=w.heap.size+1:=by rw[Y];simp
  have k0:=dx Y.symm;have e0:=dC Y.symm;have k1:aa [] W1 (W1.alloc (.cells #[slice none 0 0,slice none 0 0] 271)):=bH.alloc _;show Qp _ _ _ _ _ _;rw[<-Y];exact⟨k1.get e0 (by simp),by rw[<-z1];exact XD _ _,XE _ _ _ _,XE _ _ _ _,(by intro k hk;cases hk),(by intro k hk;cases hk),(by intro k hk;cases hk),(fun s a=>by cases a),k0.trans k1⟩
 obtain⟨M,a5⟩:=aP (A.map (·.L));rw[a5.o];have b2:Xq (∀k,k<A.length->M.getD k []=(ik A k).L):=fun k hk=>by rw[<-a5.o];exact AC A k hk
 have b4:Xq (([]:Xs)=jc l b a 0):=rfl;have bT:Xq (([]:List Sl).map (·.L)=iE b a M 0):=rfl;clear hD ok hH y hA bk hF hN;go_enter func176,ntmps176;go_wp2
 go_loopg [8] a.length (fun g bx wr=>∃(k:Nat) (V:Xs) (p:Hd) (B:List Sl) (n:Hd),k<=a.length/\g=a.length-k/\bx=int i64 k/\(V.length<=k/\B.length<=k)/\Xq (V=jc l b a k)/\Xq (B.map (·.L)=iE b a M k)/\Xq (Qp w wr V p B n))
 ·exact⟨0,[],⟨none,0⟩,[],⟨none,0⟩,by omega,rfl,rfl,⟨Xy _,Xy _⟩,b4,bT,S0⟩
 obtain⟨k,V,p,B,n,hk,hg,rfl,⟨cu,co⟩,HV,HB,u⟩:=hrel;have T:Xq _:=u.o.Zbw;rcases kn k a.length with ⟨y,ch⟩ | ⟨y,-⟩
 ·have cg:=b1.o a[k] (XM y);have R:a[k]<b.length:=by omega
  obtain⟨gH,rfl,cb,bg⟩:=(n8.Zbj HH.o T.o) k a[k] (Xv y);have a3:Xq _:=gM.Zbj HD.o T.o;obtain⟨t0,s0,ca⟩:=a3.o.cells;obtain⟨gs,rfl,cd,-,-,-,q3⟩:=a3.o.s.2 a[k] b[a[k]] (Xv R);have az:a.getD k 0=a[k]:=by rw[Xw,Xv y];rfl
  have ba:Xq (M1 b a k=(b[a[k]].k.toList == [36,102])):=cm (by unfold M1;rw[az,bA b a[k] R]);have z:Xq _:=OZ b a k;have cE:((a[k]:Nat):Int)<b.length:=by omega
  have cB:(0:Int)<=((a[k]:Nat):Int):=by omega
  have a0:Xq ((b[a[k]].k.toList == [36,102])=true->∀wx,aa [] w wx->Calls prog 71 #[pointer (some ⟨i,0,none⟩),int i64 ((a[k]:Nat):Int)] wx fun e w'=>∃h',e=returned (slice h'.ao (bC l b[a[k]].h).length h'.cap)/\xf wx w' h' (bC l b[a[k]].h)):=fun h wx kx=>jI i a[k] l t N b _ H wx (gM.Zbj HD.o kx) R (by omega) (by have:=b3.o.e a[k] cg;rw[<-bA b a[k] R]at this;exact this (iq h (by decide)));have a1:Xq (bC l b[a[k]].h=aU l b (a.getD k 0)):=cm (by unfold aU;rw[az,bA b a[k] R]);rw[a1.o]at a0;have a4:Xq _:=HF.o k y;rw[ba.o]at z a4;clear a1 ba az;generalize b[a[k]].k=sk at *;generalize a[k]=j at *;cases h1:(sk.toList == [36,102])
  ·rw[h1,Xz (by simp),Ya]at z;have U:Xq (V=jc l b a (k+1)):=cm (by unfold jc;rw[z.o];exact HV.o);have O:Xq (B.map (·.L)=iE b a M (k+1)):=cm (by unfold iE;rw[z.o];exact HB.o);(go_upto_region 5 with fail);go_quiet (fail);have aq:Xq _:=u.o.Zbj ((aa.refl [] wr).drewN nq);go_wp2;go_roundg (a.length-(k+1))
   ·exact⟨k+1,V,p,B,n,by omega,rfl,by go_num,⟨by omega,by omega⟩,U,O,aq⟩
   omega
  ·rw[h1,XA rfl]at z;have bo:=a4.o h1;have am:Xq _:=a0.o h1;obtain⟨X,HX⟩:=aP (aU l b (a.getD k 0));rw[HX.o]at bo am;have U:Xq (V++[X.getD 1 ⟨#[]⟩]=jc l b a (k+1)):=cm (by unfold jc;rw[z.o,Yj,HV.o];simp only[List.map_cons,List.map_nil];rw[HX.o];rfl);have Z:k<A.length:=(by omega);have O:Xq (B.map (·.L)++[(ik A k).L.drop 1]=iE b a M (k+1)):=cm (by unfold iE;rw[z.o,Yj,HB.o];simp only[List.map_cons,List.map_nil];rw[b2.o k Z];rfl);(go_upto_region 5 with fail);go_quiet (fail);(go_upto_region 6 with fail);obtain⟨W2,ac⟩:=aP (wr.drewN nq);rw[ac.o];have k2:aa [] wr W2:=(by rw[<-ac.o];exact(aa.refl [] wr).drewN nq);have aq:Xq _:=u.o.Zbj k2;have aT:Xq _:=am.o W2 (T.o.trans k2);have bj:W2.cell? ⟨gH,k,none⟩=some (int i64 (j:Int)):=(by rw[XJ (k2.block gH cb (by simp))];exact bg);clear t0 s0 ca q3 bg cd k2 am;(go_upto_region 7 with (go_at_call 71;refine Xx aT.o ?_;rintro e w3 ⟨h3,rfl,x3⟩));have G:Xq _:=aq.o.Zbj x3.Zbw;obtain⟨gX,eX,cc,cX⟩:=x3.ZbH.srcX 1 _ (oD X 1 bo);generalize X.getD 1 ⟨#[]⟩=x at *;rw[eX];have cv:(1:Int)<X.length:=(by omega);have p0:w3.cell? ⟨w.heap.size+1,0,none⟩=some (slice p.ao V.length p.cap):=(by rw[ab G.o.c];rfl);have p2:=ah G.o.c;have b7:=G.o.v;have b8:Xq ((aE V).n<=900000000):=(by show V.length<=_;omega);have b5:Xq ((aE V).n=V.length):=rfl;clear bj x3;go_region_law (refine ci w3 rfl (.tmp 36) (.tmp 40) 61 rfl iS (string ⟨#[]⟩) 16 p (aE V) [string x] underlying61 cf bs bv bw rfl XR (by rw[b5.o];simp[Act.eval]) b7 b8.o (by omega) (by simp[Act.eval]) rfl (by simp[Value.oneCell']) ?_;intro ar P w5 aS ax;have c5:=ax.Zbw.get G.o.c (fun I=>by have:=G.o.fv _ (aX I);omega);have f5:=zcW c5 0;have d5:w5.cell? ⟨w.heap.size+1,0,none⟩=some (slice p.ao V.length p.cap):=(by rw[ab c5];rfl);have z5:=ah c5)
   all_goals
    rw[dy]at aS;have d:Xq _:=(G.o.addV (m:=(aE V).n+1) ax aS (by simp[aE]));obtain⟨X5,bd⟩:=aP (w5.setCell ⟨w.heap.size+1,0,none⟩ (slice ar ((aE V).n+1) P));rw[bd.o]at d ⊢;clear aS ax c5 f5 d5 z5 p0 p2 bd cc cX;have b0:Xq _:=d.o.Zbw;obtain⟨gA,rfl,cz,b6⟩:=cW.sl (cW.Zbj HA.o b0.o) k Z;have ap:Xq _:=bz.o (ik A k) (lx A k Z);have br:=HN.o (ik A k) (lx A k Z);have cl:(k:Int)<A.length:=by omega
    generalize ik A k=s at *;obtain⟨ck,f,F⟩:=s;obtain⟨J,K,es,-,-⟩:=ap.o.src 0 _ (oD F 0 br);replace es:ck=some ⟨J,K,none⟩:=es;subst es;have cj:=ap.o.le;simp only at b6 br cj O;have p0:X5.cell? ⟨w.heap.size+1,1,none⟩=some (slice n.ao B.length n.cap):=by rw[ab d.o.c];rfl
    have p2:=ah d.o.c;have bm:=d.o.b;have bl:Xq ((nj B).n<=900000000):=(by show B.length<=_;omega);have a2:Xq ((nj B).n=B.length):=rfl;have cF:(1:Int)<=F.length:=(by omega);have cx:1<=f:=(by omega);have cy:(F.length:Int)<=(f:Int):=(by omega);by_cases bp:f=1
    ·subst bp;have HT:Xq (su w ⟨some ⟨J,K,none⟩,0,F.drop 1⟩):=(by show su w _;rw[ZY (by omega)];exact su.none0 (fun e=>by cases e));have an:Xq (([slice (some ⟨J,K,none⟩) 0 0]:List Value)=Le ⟨some ⟨J,K,none⟩,0,F.drop 1⟩):=cm (by unfold Le;rw[ZY (by omega)];rfl);(go_upto_region 8 with fail);go_region_law (refine ci X5 rfl (.tmp 44) (.tmp 50) 218 rfl iL (slice none 0 0) 24 n (nj B) [slice (some ⟨J,K,none⟩) 0 0] underlying218 bq ad af ag rfl XR (by rw[a2.o];simp[Act.eval]) bm bl.o (by omega) (by simp[Act.eval]) rfl (by simp[Value.oneCell']) ?_;intro av Q w6 E C;have W:=C.Zbw.get d.o.c (fun I=>by have:=d.o.fb _ (aX I);omega);have f6:=zcW W 1;have d6:w6.cell? ⟨w.heap.size+1,1,none⟩=some (slice n.ao B.length n.cap):=(by rw[ab W];rfl);have z6:=ah W)
     all_goals
      rw[an.o,ui]at E
      have ai:=(show Xq _ from d.o.addB (m:=(nj B).n+1) C E (fun s a=>by
       rcases X9.1 a with h | h
       ·exact d.o.s s h
       ·rw[XH.1 h];exact HT.o) (by simp[nj,lu]))
      have al:Xq ((B++[(⟨some ⟨J,K,none⟩,0,F.drop 1⟩:Sl)]).map (·.L)=iE b a M (k+1)):=cm (by rw[Yj];exact O.o);clear E C W;go_wp2;go_roundg (a.length-(k+1))
      ·exact⟨k+1,V++[x],⟨ar,P⟩,B++[⟨some ⟨J,K,none⟩,0,F.drop 1⟩],⟨av,Q⟩,by omega,rfl,by go_num,⟨by simp;omega,by simp;omega⟩,U,al,ai⟩
      omega
    ·have HT:Xq _:=su.tail ap.o;have an:Xq (F.length-1=(F.drop 1).length):=cm (by simp);(go_upto_region 8 with fail);go_region_law (refine ci X5 rfl (.tmp 44) (.tmp 50) 218 rfl iL (slice none 0 0) 24 n (nj B) [slice (some ⟨J,K+1,none⟩) (F.length-1) (f-1)] underlying218 bq ad af ag rfl XR (by rw[a2.o];simp[Act.eval]) bm bl.o (by omega) (by simp[Act.eval]) rfl (by simp[Value.oneCell']) ?_;intro av Q w6 E C;have W:=C.Zbw.get d.o.c (fun I=>by have:=d.o.fb _ (aX I);omega);have f6:=zcW W 1;have d6:w6.cell? ⟨w.heap.size+1,1,none⟩=some (slice n.ao B.length n.cap):=(by rw[ab W];rfl);have z6:=ah W)
     all_goals
      rw[an.o,show([slice (some ⟨J,K+1,none⟩) (F.drop 1).length (f-1)]:List Value)=Le ⟨some ⟨J,K+1,none⟩,f-1,F.drop 1⟩ from rfl,ui]at E
      have ai:=(show Xq _ from d.o.addB (m:=(nj B).n+1) C E (fun s a=>by
       rcases X9.1 a with h | h
       ·exact d.o.s s h
       ·rw[XH.1 h];exact HT.o) (by simp[nj,lu]))
      have al:Xq ((B++[(⟨some ⟨J,K+1,none⟩,f-1,F.drop 1⟩:Sl)]).map (·.L)=iE b a M (k+1)):=cm (by rw[Yj];exact O.o);clear E C W;go_wp2;go_roundg (a.length-(k+1))
      ·exact⟨k+1,V++[x],⟨ar,P⟩,B++[⟨some ⟨J,K+1,none⟩,f-1,F.drop 1⟩],⟨av,Q⟩,by omega,rfl,by go_num,⟨by simp;omega,by simp;omega⟩,U,al,ai⟩
      omega
 ·have e:k=a.length:=by omega
  subst e;have ch:¬(a.length:Int)<a.length:=by omega
  have r0:wr.cell? ⟨w.heap.size,0,none⟩=some (slice none 0 0):=by rw[ab u.o.r];rfl
  have r1:wr.cell? ⟨w.heap.size,1,none⟩=some (slice none 0 0):=by rw[ab u.o.r];rfl
  have r2:=zcW u.o.r 0;have r3:=zcW u.o.r 1;have c0:wr.cell? ⟨w.heap.size+1,0,none⟩=some (slice p.ao V.length p.cap):=by rw[ab u.o.c];rfl
  have c1:wr.cell? ⟨w.heap.size+1,1,none⟩=some (slice n.ao B.length n.cap):=by rw[ab u.o.c];rfl
  have a6:Xq (∀q,p.Zbx=some q->q≠w.heap.size):=fun q I=>by have:=u.o.fv q I;omega
  have a7:Xq (∀q,n.Zbx=some q->q≠w.heap.size):=fun q I=>by have:=u.o.fb q I;omega
  have bc:Xq (jc l b a a.length=V):=HV.o.symm;go_wp2;obtain⟨x0,x1⟩:=P0 u.o.r (slice p.ao V.length p.cap) (slice n.ao B.length n.cap);have kf:aa [] w ((wr.setCell ⟨w.heap.size,0,none⟩ (slice p.ao V.length p.cap)).setCell ⟨w.heap.size,1,none⟩ (slice n.ao B.length n.cap)):=(T.o.sr1 (by simp) _).sr1 (by simp) _;exact XG (v:=agg #[slice p.ao V.length p.cap,slice n.ao B.length n.cap]) (by simp[results,results176,go_sem,x0,x1]) rfl ⟨p,n,B,by rw[bc.o],HB.o,u.o.s,by rw[bc.o];exact⟨(u.o.v.Zbs a6.o _ _).Zbs a6.o _ _,fun q I=>(by have:=u.o.fv q I;omega),kf⟩,⟨(u.o.b.Zbs a7.o _ _).Zbs a7.o _ _,fun q I=>(by have:=u.o.fb q I;omega),kf⟩⟩
def jV(T:List Tk)(S:List Sm)(hs:Xu)(k:Nat):Xs:=((hs.take k).filter (fun j=>((ay S j).k.toList == [36,102]))).map (fun j=>tS T ((ay S j).h+1))
def V6(p:Xr×Xr):List Value:=[string p.1,string p.2]
theorem SM(p:Xr×Xr):(V6 p).length=2:=rfl
def ni(L:Fs):eD:=lu 114 2 V6 L
theorem Iy(L:Fs)(x:Xr×Xr):(⟨(ni L).e,(ni L).size,(ni L).n+1,(ni L).xs++V6 x⟩:eD)=ni (L++[x]):=fT _ _ _ _ _
def mo(T:List Tk)(S:List Sm)(a:Nat)(V:Xs)(i m:Nat):Fs:=((List.range m).filter (fun j=>decide (i<j)&&jq T S (V.getD i ⟨#[]⟩) (V.getD j ⟨#[]⟩) a)).map (fun j=>(V.getD i ⟨#[]⟩,V.getD j ⟨#[]⟩))
def nQ(T:List Tk)(S:List Sm)(a:Nat)(V:Xs)(k:Nat):Fs:=(List.range k).flatMap (fun i=>mo T S a V i V.length)
def jX(T:List Tk)(S:List Sm)(a:Nat):Fs:=nQ T S a (jV T S (bW T S a) (bW T S a).length) (jV T S (bW T S a) (bW T S a).length).length
theorem Il(h:L<H):mo l b k n L (H+1)=mo l b k n L H++(if jq l b (n.getD L ⟨#[]⟩) (n.getD H ⟨#[]⟩) k=true then [(n.getD L ⟨#[]⟩,n.getD H ⟨#[]⟩)] else []):=by
 unfold mo;rw[jm,Yj,YX h,Y0];split <;> rfl
theorem Im:mo l b k n H (H+1)=[]:=by
 unfold mo;rw[ZE.2 (fun j a=>by have:=XI.1 a;simp;omega)];rfl
theorem AU:nQ l b k n (H+1)=nQ l b k n H++mo l b k n H n.length:=by
 unfold nQ;rw[YG,YZ];simp
theorem KE:(mo l b k n L H).length<=H:=by
 unfold mo;rw[XZ];have:=YE (fun j=>decide (L<j)&&jq l b (n.getD L ⟨#[]⟩) (n.getD j ⟨#[]⟩) k) (List.range H);rw[YW]at this;exact this
theorem Kn(h:H<M.length):jV l b M (H+1)=jV l b M H++(if((ay b M[H]).k.toList == [36,102])=true then [tS l ((ay b M[H]).h+1)] else []):=by
 unfold jV;rw[Yc h,Yy,Yj];congr 1;cases a:((ay b M[H]).k.toList == [36,102])
 ·rw[Y9 (by rw[a];simp)];rfl
 ·rw[Zl (p:=fun j=>((ay b j).k.toList == [36,102])) a];rfl
theorem Vw:(prog.info? 114).map (fun i=>(i.zero,i.size,i.bytes))=some (some (agg #[string ⟨#[]⟩,string ⟨#[]⟩]),2,32):=by kernel_rfl
theorem AI(w:World)(hD:gM w i l t N b D H)(ok:pE l b S)(hn:S<b.length)(hE:dA l (ay b S).h) :
  Calls prog 63 #[pointer (some ⟨i,0,none⟩),int i64 S] w fun e a=>∃G,e=returned (slice G.ao (jX l b S).length G.cap)/\iG w a G (ni (jX l b S)):=by
 have HD:Xq _:=hD;have a2:Xq _:=ok;have cl:=ok.sm;have co:=ok.tm;have aS:Xq _:=oM i S l t N b D H w hD ok hn hE;have cP:=oL l b S;have b1:Xq _:=wt l b S;have bw:Xq (jX l b S=nQ l b S (jV l b (bW l b S) (bW l b S).length) (jV l b (bW l b S) (bW l b S).length).length):=rfl;obtain⟨iS,cf,bl,bm,bo⟩:=XV i9;obtain⟨iP,cd,bg,bj,bk⟩:=XV Vw;clear hD ok;generalize bW l b S=c at *;go_enter func63,ntmps63;go_upto_region 3 with (go_at_call 61;refine Xx aS.o ?_;rintro e C ⟨h1,rfl,x1⟩)
 have aT:Xq _:=x1.Zbw;have bT:Xq _:=x1.ZbH.srcN;have br:Xq (iG C C ⟨none,0⟩ (aE [])):=⟨XE _ _ _ _,(by intro k hk;cases hk),aa.refl _ _⟩;clear x1 aS;obtain⟨a1,c1⟩:=h1;have b0:Xq (([]:Xs)=jV l b c 0):=cm (by simp[jV]);go_wp2
 go_loopg [5,7] c.length (fun g o bp wr=>∃(k:Nat) (G:Hd) (V:Xs),k<=c.length/\g=c.length-k/\o=slice G.ao V.length G.cap/\bp=int i64 k/\V.length<=k/\Xq (V=jV l b c k)/\Xq (iG C wr G (aE V)))
 ·exact⟨0,⟨none,0⟩,[],by omega,rfl,rfl,rfl,by simp,b0,br⟩
 obtain⟨k,G,V,hk,hg,rfl,rfl,cq,HV,O⟩:=hrel;have Z:Xq _:=aT.o.trans O.o.Zbw;rcases kn k c.length with ⟨M,cy⟩ | ⟨M,-⟩
 ·have cg:=b1.o c[k] (XM M);have aq:c[k]<b.length:=by omega
  obtain⟨gH,eH,cb,cH⟩:=bT.o k c[k] (Xv M);replace eH:a1=some ⟨gH,0,none⟩:=eH;subst eH;have Y:Xq _:=gM.Zbj HD.o aT.o;obtain⟨t0,s0,hb⟩:=Y.o.cells;obtain⟨K,rfl,bd,-,-,q2,q3⟩:=Y.o.s.2 c[k] b[c[k]] (Xv aq);have B:Xq _:=Kn l b c k M;rw[<-HV.o,<-bA b c[k] aq]at B;have bq:Xq ((b[c[k]].k.toList == [36,102])=true->b[c[k]].h+1<l.length):=fun h=>by have:=a2.o.f c[k] cg;rw[<-bA b c[k] aq]at this;exact this h
  have cx:((c[k]:Nat):Int)<b.length:=by omega
  have cv:(0:Int)<=((c[k]:Nat):Int):=by omega
  generalize b[c[k]].k=sk at *;generalize b[c[k]].h=r at *;generalize c[k]=j at *;have W:Xq (∀a:World,C.heap.size<=a.heap.size->(∀q,q<C.heap.size->a.heap[q]?=C.heap[q]?)->(a.cell? ⟨i,0,none⟩=some (slice t l.length N)/\a.cell? ⟨i,1,none⟩=some (slice (some ⟨K,0,none⟩) b.length H)/\a.cell? ⟨gH,k,none⟩=some (int i64 (j:Int))/\a.cell? ⟨K,j*4+2,none⟩=some (int i64 (r:Int))/\a.cell? ⟨K,j*4+3,none⟩=some (string sk))/\i<a.heap.size/\K<a.heap.size/\gH<a.heap.size):=fun a hz d =>
   ⟨⟨by rw[XJ (d i hb)];exact t0,by rw[XJ (d i hb)];exact s0,by rw[XJ (d gH cb)];exact cH,by rw[XJ (d K bd)];exact q2,by rw[XJ (d K bd)];exact q3⟩,by omega,by omega,by omega⟩
  clear t0 s0 q2 q3 cH;have bz:Xq (∀q,q<C.heap.size->wr.heap[q]?=C.heap[q]?):=fun q d=>O.o.Zbw.block q d (by simp);obtain⟨⟨t0,s0,cH,q2,q3⟩,ba,R,Q⟩:=W.o wr O.o.Zbw.size bz.o;cases h1:(sk.toList == [36,102])
  ·have F:Xq (V=jV l b c (k+1)):=(by have:=B.o;rw[h1,Xz (by simp),Ya]at this;exact this.symm);(go_upto_region 6 with fail);go_quiet (fail);have z:Xq _:=O.o.Zbj ((aa.refl [] wr).drewN nq);go_wp2;go_roundg (c.length-(k+1))
   ·exact⟨k+1,G,V,by omega,rfl,rfl,by go_num,by omega,F,z⟩
   omega
  ·have F:Xq (V++[tS l (r+1)]=jV l b c (k+1)):=(by have:=B.o;rw[h1,XA rfl]at this;exact this.symm);have ca:=bq.o h1;obtain⟨gT,rfl,cc,u0,-⟩:=Y.o.t.2 (r+1) _ (jN l (r+1) ca);replace u0:C.cell? ⟨gT,(r+1)*5,none⟩=some (string (tS l (r+1))):=u0;generalize tS l (r+1)=v at *;have az:Xq (∀a:World,(∀q,q<C.heap.size->a.heap[q]?=C.heap[q]?)->a.cell? ⟨gT,(r+1)*5,none⟩=some (string v)):=fun a d=>by rw[XJ (d gT cc)];exact u0
   have cs:(r:Int)+1<l.length:=(by omega);have cL:IntKind.i64.wrap ((r:Int)+1)=(r:Int)+1:=(by rw[YS];omega);have cF:((r:Int)+1).toNat=r+1:=(by omega);have cE:(0:Int)<=(r:Int)+1:=(by omega);(go_upto_region 6 with fail);go_quiet (fail);(go_upto_region 7 with fail);obtain⟨W2,a3⟩:=aP (wr.drewN nq);rw[a3.o];have k2:aa [] wr W2:=(by rw[<-a3.o];exact(aa.refl [] wr).drewN nq);have z:Xq _:=O.o.Zbj k2;have af:Xq (∀q,q<C.heap.size->W2.heap[q]?=C.heap[q]?):=fun q d=>z.o.Zbw.block q d (by simp);clear t0 s0 cH q2 q3 ba R Q u0;obtain⟨⟨t0,s0,cH,q2,-⟩,ba,R,Q⟩:=W.o W2 z.o.Zbw.size af.o;have u0:=az.o W2 af.o;have al:=z.o.ZbH;have b8:Xq ((aE V).n<=900000000):=by show V.length<=_;omega
   have HS:Xq (∀(A:World) (h5:Hd),bL W2 A G h5->(A.cell? ⟨i,0,none⟩=some (slice (some ⟨gT,0,none⟩) l.length N)/\A.cell? ⟨i,1,none⟩=some (slice (some ⟨K,0,none⟩) b.length H)/\A.cell? ⟨gH,k,none⟩=some (int i64 (j:Int))/\A.cell? ⟨K,j*4+2,none⟩=some (int i64 (r:Int))/\A.cell? ⟨gT,(r+1)*5,none⟩=some (string v))):=fun A h5 gr=>by
    have be:∀q,q<C.heap.size->A.heap[q]?=C.heap[q]?:=fun q d=>by
     rw[gr.Zbw.block q (XB d z.o.Zbw.size) (fun hm=>by have:=O.o.far q (aX hm);omega)];exact af.o q d
    obtain⟨⟨y0,y1,y2,y3,-⟩,-⟩:=W.o A (XF z.o.Zbw.size gr.Zbw.size) be;exact⟨y0,y1,y2,y3,az.o A be⟩
   clear k2;go_region_held3 (fun a=>a.cell? ⟨i,0,none⟩=some (slice (some ⟨gT,0,none⟩) l.length N)/\a.cell? ⟨i,1,none⟩=some (slice (some ⟨K,0,none⟩) b.length H)/\a.cell? ⟨gH,k,none⟩=some (int i64 (j:Int))/\a.cell? ⟨K,j*4+2,none⟩=some (int i64 (r:Int))/\a.cell? ⟨gT,(r+1)*5,none⟩=some (string v)) (go_keep) ((refine ci W2 (by rfl) (.tmp 33) (.tmp 53) 61 (by rfl) iS (string ⟨#[]⟩) 16 G (aE V) [string v] underlying61 cf bl bm bo rfl XR (by simp[Act.eval] <;> rfl) al b8.o (by omega) (by simp[Act.eval]) rfl (by simp[Value.oneCell']) ?_;intro b3 a6 A ar am;obtain⟨y0,y1,y2,y3,y4⟩:=HS.o A _ am));rw[dy]at ar;have ad:Xq _:=z.o.Zbt am ar;clear ar am;go_wp2;go_roundg (c.length-(k+1))
   ·exact⟨k+1,⟨b3,a6⟩,V++[v],by omega,rfl,by simp[aE],by go_num,by simp;omega,F,ad⟩
   omega
 ·have e:k=c.length:=by omega
  subst e;have bx:Xq (jX l b S=nQ l b S V V.length):=cm (by rw[bw.o,HV.o]);have ag:Xq _:=O.o.ZbH.srcX;have a0:Xq (iG wr wr ⟨none,0⟩ (ni [])):=⟨XE _ _ _ _,(by intro k hk;cases hk),aa.refl _ _⟩;have bs:Xq (([]:Fs)=nQ l b S V 0):=cm (by simp[nQ]);obtain⟨va,vc⟩:=G;obtain⟨w2,ai⟩:=aP (wr);rw[ai.o];rw[ai.o]at ag a0 Z;clear HV O ai;go_wp2
  go_loopg [8,9] V.length (fun g o bp w3=>∃(m:Nat) (h2:Hd) (L:Fs),m<=V.length/\g=V.length-m/\o=slice h2.ao L.length h2.cap/\bp=int i64 m/\L.length<=10000*m/\Xq (L=nQ l b S V m)/\Xq (iG w2 w3 h2 (ni L)))
  ·exact⟨0,⟨none,0⟩,[],by omega,rfl,rfl,rfl,by simp,bs,a0⟩
  obtain⟨m,h2,L,hm,ct,rfl,rfl,hL,HL,a4⟩:=hrel;rcases kn m V.length with ⟨T,cz⟩ | ⟨T,-⟩
  ·have bv:Xq (L=nQ l b S V m++mo l b S V m (m+1)):=(by show _=_;rw[Im,Ya];exact HL.o);obtain⟨J,eV,bc,b5⟩:=ag.o m _ (oD V m T);replace eV:va=some ⟨J,0,none⟩:=eV;subst eV;go_wp2
   go_loopg [8,10] (V.length-(m+1)) (fun g o bp w3=>∃(q:Nat) (P:Hd) (E:Fs),(m<q/\q<=V.length)/\g=V.length-q/\o=slice P.ao E.length P.cap/\bp=int i64 q/\E.length<=10000*m+q/\Xq (E=nQ l b S V m++mo l b S V m q)/\Xq (iG w2 w3 P (ni E)))
   ·exact⟨m+1,h2,L,⟨by omega,by omega⟩,rfl,rfl,by go_num,by omega,bv,a4⟩
   obtain⟨q,P,E,⟨ch,cA⟩,cu,rfl,rfl,ck,ac,I⟩:=hrel;rcases kn q V.length with ⟨U,cB⟩ | ⟨U,-⟩
   ·obtain⟨cj,b6,-,a5⟩:=ag.o q _ (oD V q U);cases b6
    have B:Xq _:=Il l b S V m q ch;have ax:Xq (∀wx,aa [] w2 wx->Calls prog 93 #[pointer (some ⟨i,0,none⟩),string (V.getD m ⟨#[]⟩),string (V.getD q ⟨#[]⟩),int i64 S] wx fun e a=>e=returned (bool (jq l b (V.getD m ⟨#[]⟩) (V.getD q ⟨#[]⟩) S))/\aa [] wx a):=fun wx kx=>zM i S _ _ l t N b D H wx (gM.Zbj HD.o (Z.o.trans kx)) a2.o;have X:Xq (∀a:World,w2.heap.size<=a.heap.size->(∀q,q<w2.heap.size->a.heap[q]?=w2.heap[q]?)->a.cell? ⟨J,m,none⟩=some (string (V.getD m ⟨#[]⟩))/\a.cell? ⟨J,q,none⟩=some (string (V.getD q ⟨#[]⟩))/\J<a.heap.size):=fun a hz d=>⟨by rw[XJ (d J bc)];exact b5,by rw[XJ (d J bc)];exact a5,by omega⟩
    generalize V.getD m ⟨#[]⟩=x at *;generalize V.getD q ⟨#[]⟩=y at *;obtain⟨ap,b2⟩:=aP (jq l b x y S);rw[b2.o]at ax B;clear a5;obtain⟨v0,v1,bf⟩:=X.o wr I.o.Zbw.size (fun q d=>I.o.Zbw.block q d (by simp));(go_upto_region 15 with fail);go_region_with (go_at_call 93;refine(ax.o _ (by exact I.o.Zbw.drew)).mono ?_;rintro e A ⟨rfl,k5⟩)
    all_goals
     have k6:aa [] wr A:=((aa.refl [] wr).drew).trans k5;have n:Xq _:=I.o.Zbj k6;clear k5 k6 v0 v1 bf;cases ap
     ·have F:Xq (E=nQ l b S V m++mo l b S V m (q+1)):=(by show _=_;rw[B.o,Xz (by simp),Ya];exact ac.o);go_wp2;go_roundg (V.length-(q+1))
      ·exact⟨q+1,P,E,⟨by omega,by omega⟩,rfl,rfl,by go_num,by omega,F,n⟩
      omega
     ·have F:Xq (E++[(x,y)]=nQ l b S V m++mo l b S V m (q+1)):=(by show _=_;rw[B.o,XA rfl,ac.o,Y2]);(go_upto_region 17 with fail);obtain⟨v0,v1,bf⟩:=X.o A n.o.Zbw.size (fun q d=>n.o.Zbw.block q d (by simp));have al:=n.o.ZbH;have b7:Xq ((ni E).n<=900000000):=(by show E.length<=_;omega);have s3:Xq (∀u∈([string x,string y]:List Value),u.oneCell'=true):=by intro u hu;simp only[List.mem_cons,List.not_mem_nil,or_false]at hu;rcases hu with rfl | rfl <;> rfl
      have HS:Xq (∀(w6:World) (h6:Hd),bL A w6 P h6->w6.cell? ⟨J,m,none⟩=some (string x)/\w6.cell? ⟨J,q,none⟩=some (string y)):=fun w6 h6 gr=>by
       obtain⟨y0,y1,-⟩:=X.o w6 (XF n.o.Zbw.size gr.Zbw.size) (fun p hp=>by
        rw[gr.Zbw.block p (XB hp n.o.Zbw.size) (fun hm=>by have:=n.o.far p (aX hm);omega)];exact n.o.Zbw.block p hp (by simp))
       exact⟨y0,y1⟩
      go_region_held3 (fun a=>a.cell? ⟨J,m,none⟩=some (string x)/\a.cell? ⟨J,q,none⟩=some (string y)) (go_keep) ((refine ci A (by rfl) (.tmp 81) (.tmp 91) 111 (by rfl) iP (agg #[string ⟨#[]⟩,string ⟨#[]⟩]) 32 P (ni E) [string x,string y] underlying111 cd bg bj bk rfl Zaz (by simp[Act.eval] <;> rfl) al b7.o (by omega) (by simp[Act.eval]) rfl s3.o ?_;intro b4 a7 w6 av an;obtain⟨y0,y1⟩:=HS.o w6 _ an));rw[show([string x,string y]:List Value)=V6 (x,y) from rfl,Iy]at av;have ad:Xq _:=n.o.Zbt an av;clear av an;go_wp2;go_roundg (V.length-(q+1))
      ·exact⟨q+1,⟨b4,a7⟩,E++[(x,y)],⟨by omega,by omega⟩,rfl,by simp[ni,lu],by go_num,by simp;omega,F,ad⟩
      omega
   ·have eq:q=V.length:=(by omega);subst eq;have F:Xq (E=nQ l b S V (m+1)):=cm (by rw[AU];exact ac.o);go_wp2;go_roundg (V.length-(m+1))
    ·exact⟨m+1,P,E,by omega,rfl,rfl,by go_num,by omega,F,I⟩
    omega
  ·have e:m=V.length:=(by omega);subst e;have F:Xq (jX l b S=L):=cm (by rw[bx.o,HL.o]);go_wp2;go_ret;exact⟨h2,by rw[F.o];rfl,by rw[F.o];exact a4.o.base Z.o⟩
end Go.Proofs.YtpdholcaobgofaaGreat
