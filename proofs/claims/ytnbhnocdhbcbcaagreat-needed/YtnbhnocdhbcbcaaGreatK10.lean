import Derived.Test.YtnbhnocdhbcbcaaGreatK09
namespace Go.Proofs.YtnbhnocdhbcbcaaGreat
open Go.RowKit Tryz
open Value IntKind Ending
set_option maxHeartbeats 0
variable{H N:World}{l S I D s y2:Nat}{y7:Xt}{yd yf:Xv}{ys:List Bool}{z4:Nat->Xv}{y yt:Nat->Hd}{yr:List St}{yg:Hd}{i y3:List Ex}(y5:World)(m z5 z6 M v d:Nat)(b:List St)(f:Xt)(L:List Bool)(y9:Hd)(zt:Xt)(z7:Nat->Hd)(ya o:Hd)(T:Xv)(a:Xt)(n:Nat)(x:World)(w:Nat)(y6:List Xt)
theorem Ds(c:aB x o (bD T))(u:T.length<=1073741824) :
  Calls prog 281 #[slice o.ao T.length o.cap,int i64 n] x fun e v=>e=returned (bool (jy T n))/\v=x:=by
 obtain⟨w,r⟩:=o;rcases c.XP with ⟨t,q,_⟩ | ⟨g,s,p,_⟩
 ·have j:T.length=0:=q;have m:T=[]:=Uf j;subst m;clear c q j u t;go_enter func281,ntmps281;go_wp2;refine VB 1 ?_;rw[VT];go_wp2;go_ret;exact⟨rfl,rfl⟩
 ·simp only at p;subst p;go_enter func281,ntmps281;go_wp2
  go_loopg [5] T.length (fun g i wr=>∃k:Nat,k<=T.length/\g=T.length-k/\i=int i64 k/\Xr (jy T n=jy (T.drop k) n)/\wr=x)
  ·exact⟨0,by omega,by omega,rfl,rfl,rfl⟩
  obtain⟨k,A,z,rfl,d,rfl⟩:=hrel;by_cases a:k<T.length
  ·have y:=c.cell rfl k (int i64 T[k]) (mm T k a);cases b:(T[k]==n)
   ·have f:Xr (jy T n=jy (T.drop (k+1)) n):=zV T n k a d.o b;have l:=(pJ T[k] n).trans b;clear d c b;go_wp2;go_roundg (T.length-(k+1))
    ·exact⟨k+1,by omega,rfl,by go_num,f,rfl⟩
    omega
   ·have f:Xr (jy T n=true):=Df T n k a d.o b;have l:=(pJ T[k] n).trans b;clear d c b;go_wp2;go_ret;exact⟨aF f.o.symm,rfl⟩
  ·have f:Xr (jy T n=false):=zW T n k a d.o;clear d c;go_wp2;go_ret;exact⟨aF f.o.symm,rfl⟩
structure zg(w:World)(b rb ro g n tb:Nat):Prop where
 XS:∃arr t,w.heap[b]?=some (.cells arr t)/\arr[0]?=some (pointer (some ⟨rb,ro,none⟩))/\arr[1]?=some (slice (some ⟨g,0,none⟩) n n)/\arr[2]?=some (pointer (some ⟨tb,0,none⟩))
theorem zg.XE(h:zg H l S I D s y2)(k:ae [] H N):zg N l S I D s y2:=by
 obtain⟨a,t,b,c⟩:=h.XS;exact⟨a,t,k.get b (by simp),c⟩
theorem zg.cells{g:Nat}(h:zg H l S I g D s):H.cell? ⟨l,0,none⟩=some (pointer (some ⟨S,I,none⟩))/\H.cell? ⟨l,1,none⟩=some (slice (some ⟨g,0,none⟩) D D)/\H.cell? ⟨l,2,none⟩=some (pointer (some ⟨s,0,none⟩)):=by
 obtain⟨b,t,a,c,d,e⟩:=h.XS;exact⟨(ah a 0).trans c,(ah a 1).trans d,(ah a 2).trans e⟩
def oE(vs:Xt):Xt->Xv->Xv
 | [],acc=>acc
 | x :: r,acc=>match mF vs x with
  | none=>oE vs r acc
  | some p=>if jy acc p=true then oE vs r acc else oE vs r (acc++[p])
def jU(vs xs:Xt):Xv:=oE vs xs []
theorem PV(a:w<zt.length):oE f (zt.drop w) T=match mF f zt[w] with
  | none=>oE f (zt.drop (w+1)) T
  | some p=>if jy T p=true then oE f (zt.drop (w+1)) T else oE f (zt.drop (w+1)) (T++[p]):=by
 rw[TV a];rfl
theorem NE(a:¬w<zt.length):oE f (zt.drop w) T=T:=by
 rw[US (by omega)];rfl
theorem DM(d:Xt)(b:Xv)(h:∀p∈b,p<a.length):(∀p∈oE a d b,p<a.length)/\(oE a d b).length<=b.length+d.length:=by
 induction d generalizing b with
 | nil=>exact⟨h,by simp[oE]⟩
 | cons x r e =>
  rw[oE];split
  ·have:=e b h;exact⟨this.1,by simp;omega⟩
  ·next p g =>
   split
   ·have:=e b h;exact⟨this.1,by simp;omega⟩
   ·have:=e (b++[p]) (by intro q c;simp at c;rcases c with c | rfl;exact h q c;exact IJ g);exact⟨this.1,by have f:=this.2;simp at f ⊢;omega⟩
theorem LI{a:Xt}(h:l∈jU y7 a):l<y7.length:=(DM y7 a [] (by simp)).1 l h
theorem GR:(jU zt a).length<=a.length:=by have:=(DM zt a [] (by simp)).2;unfold jU;simpa using this
set_option maxRecDepth 100000
theorem xT(hp:zg x m z5 z6 M v d)(h:lB x d f L y9 ya)(hl:f.length<=1073741824)(X:kZ x o a)(Y:a.length<=1000000) :
  Calls prog 280 #[pointer (some ⟨m,0,none⟩),slice o.ao a.length o.cap] x fun e w'=>∃c:Hd,e=returned (slice c.ao (jU f a).length c.cap)/\aB w' c (bD (jU f a))/\(∀l,c.XS=some l->x.heap.size<=l)/\ae [] x w':=by
 obtain⟨i0,hi,Z,ac,ad⟩:=TZ xO;obtain⟨ao,af⟩:=o;rcases X with rfl | ⟨gv,O,ag,t,e1,e2,T,e4,e5⟩
 ·clear Y;go_enter func280,ntmps280;go_wp2;refine VB 1 ?_;rw[VT];go_wp2;go_ret;exact⟨⟨none,0⟩,rfl,Ty _ _ _ _,by intro l s;simp[Hd.XS]at s,ae.refl _ _⟩
 simp only at e1 e4 e5;subst e1;obtain⟨R,HR⟩:∃R,Xr (R=jU f a):=⟨_,rfl⟩
 rw[<-HR.o];go_enter func280,ntmps280;go_wp2
 go_loopg [5,6] a.length (fun gk sv i wr=>∃(k:Nat) (c:Hd) (b:Xv),k<=a.length/\gk=a.length-k/\i=int i64 k/\sv=slice c.ao b.length c.cap/\b.length<=k/\Xr (R=oE f (a.drop k) b)/\aB wr c (bD b)/\(∀l,c.XS=some l->x.heap.size<=l)/\ae [] x wr)
 ·exact⟨0,⟨none,0⟩,[],by omega,by omega,rfl,rfl,by simp,HR.o,Ty _ _ _ _,by intro l s;simp[Hd.XS]at s,ae.refl _ _⟩
 obtain⟨k,c,b,hk,hg,rfl,rfl,ai,w,J,I,E⟩:=hrel;have hr:=h.XE E;obtain⟨p0,p1,p2⟩:=(hp.XE E).cells;by_cases C:k<a.length
 ·have c2:wr.cell? ⟨gv,O+k,none⟩=some (string a[k]):=(ah (E.get e2 (by simp)) (O+k)).trans (T k a[k] (Tn C));have ap:(k:Int)<a.length:=by omega
  have q:Xr _:=w.o.trans (PV f a b k C);have n:Xr _:=(fun w1 (k1:ae [] wr w1)=>uj d f L y9 ya a[k] w1 (hr.XE k1) hl);clear w T p0 p1;generalize a[k]=y at *;rcases hpo:mF f y with _ | p
  ·have A:Xr (R=oE f (a.drop (k+1)) b):=(by show _=_;rw[q.o,hpo]);rw[hpo]at n;simp only[oD]at n;clear q;(go_upto_region 5 with fail);go_quiet ((go_at_call 261;exact T0 (n.o _ (bR.drewN _))));go_wp2;go_roundg (a.length-(k+1))
   ·exact⟨k+1,c,b,by omega,rfl,by go_num,rfl,by omega,A.o,J.XJ (fun l s=>((ae.refl [] wr).drewN _).block l (J.lt s) (by simp)),I,E.drewN _⟩
   omega
  ·rw[hpo]at n;simp only[oD]at n;have an:(p:Int) ≥ 0:=by omega
   (go_upto_region 5 with fail);go_quiet ((go_at_call 261;exact T0 (n.o _ (bR.drewN _))));obtain⟨P,z⟩:∃P,P=wr.drewN nq:=⟨_,rfl⟩
   rw[<-z];have r:aB P c (bD b):=by rw[z];exact J.XJ (fun l s=>((ae.refl [] wr).drewN _).block l (J.lt s) (by simp))
   have H:ae [] x P:=(by rw[z];exact E.drewN _);clear z;cases Q:jy b p
   ·have A:Xr (R=oE f (a.drop (k+1)) (b++[p])):=(by show _=_;rw[q.o,hpo];simp[Q]);have K:=r.XJ (fun l s=>((ae.refl [] P).alloc (.cells #[int i64 p] 3)).block l (r.lt s) (by simp));clear q;(go_upto_region 7 with (go_at_call 281;refine(Ds c b p _ (by exact r) (by omega)).mono ?_;rintro e w7 ⟨rfl,D⟩;rw[D,Q]));go_wp2_with (at_builtin;refine aL _ rfl (.tmp 31) (.tmp 33) 24 rfl i0 (int i64 0) 8 c (bD b) underlying24 hi Z ac ad rfl TR rfl (by exact K) ⟨_,0,none⟩ 1 1 [int i64 p] rfl rfl ?d1 ?d2 TR ?d3 ?d4 ?_)
    case d1=>intro j u S;match j,S with | 0,S=>simp at S;subst S;simp[Addr.add]
    case d2=>intro u hu;simp at hu;subst hu;rfl
    case d3=>simp only[bD];unfold maxLen;omega
    case d4=>simp only[bD];omega
    intro U F w5 N B g;rw[l4 b p]at N;have G:=H.alloc (.cells #[int i64 p] 3);have W:=G.grown B I;have al:x.heap.size<=U:=by
     rcases g with e | e
     ·exact I U e
     ·have:=G.size;simp at e this;omega
    have V:Xr ((bD b).n+1=(b++[p]).length):=ci (by simp[bD]);rw[V.o];clear B g K;go_wp2;go_roundg (a.length-(k+1))
    ·exact⟨k+1,⟨some ⟨U,0,none⟩,F⟩,b++[p],by omega,rfl,by go_num,rfl,by simp;omega,A.o,N,by intro l s;simp[Hd.XS]at s;omega,W⟩
    omega
   ·have A:Xr (R=oE f (a.drop (k+1)) b):=(by show _=_;rw[q.o,hpo];simp[Q]);clear q;go_wp2_with (go_at_call 281;refine(Ds c b p _ (by exact r) (by omega)).mono ?_;rintro e w7 ⟨rfl,D⟩;rw[D,Q]);go_roundg (a.length-(k+1))
    ·exact⟨k+1,c,b,by omega,rfl,by go_num,rfl,by omega,A.o,r,I,H⟩
    omega
 ·have A:Xr (b=R):=(w.o.trans (NE f a b k C)).symm;clear w T;go_wp2;go_ret;exact⟨c,by rw[<-A.o];rfl,by rw[<-A.o];exact J,I,E⟩
def wm(side:Nat)(ms:List Bool)(ones others:Xv):Bool:=ones.all (fun i=>others.all (fun j=>fH side ms i j))
theorem OS{side:Nat}{ms:List Bool}(a:n<yd.length)(b:w<yf.length)(h:fH side ms yd[n] yf[w]=false):wm side ms yd yf=false:=by
 cases e:wm side ms yd yf
 ·rfl
 ·unfold wm at e;rw[Uw]at e;have:=e _ (TP a);rw[Uw]at this;rw[this _ (TP b)]at h;cases h
theorem Me(h:∀i j (a:i<yd.length) (b:j<yf.length),fH l ys yd[i] yf[j]=true):wm l ys yd yf=true:=by
 unfold wm;rw[Uw];intro x c;rw[Uw];intro y d;obtain⟨i,a,rfl⟩:=Uy c;obtain⟨j,b,rfl⟩:=Uy d;exact h i j a b
set_option maxRecDepth 512
theorem AW(z:Hd)(b a:Xv)(w:World)(hp:zg w m z5 z6 M v d)(h:lB w d f L y9 ya)(P:L.length=f.length*f.length)(Q:f.length<=10000)(T:aB w o (bD b))(U:aB w z (bD a))(a0:b.length<=1000000)(a1:a.length<=1000000)(A:∀x∈b,x<f.length)(B:∀x∈a,x<f.length) :
  Calls prog 278 #[pointer (some ⟨m,0,none⟩),slice o.ao b.length o.cap,slice z.ao a.length z.cap] w fun e w'=>e=returned (bool (wm f.length L b a))/\∃u,w'=w.drewN u:=by
 go_enter func278,ntmps278;go_wp2
 go_loopg [7] b.length (fun gk i wr=>∃(k u:Nat),k<=b.length/\gk=b.length-k/\i=int i64 k/\Xr (∀i j (n:i<b.length) (C:j<a.length),i<k->fH f.length L b[i] a[j]=true)/\Xr (wr=w.drewN u))
 ·exact⟨0,0,by omega,by omega,rfl,fun i j n C h=>by omega,rfl⟩
 obtain⟨k,u,hk,hg,rfl,c,E⟩:=hrel;by_cases t:k<b.length
 ·go_wp2_with fail
  go_loopg [8] a.length (fun N i2 V=>∃(j S:Nat),j<=a.length/\N=a.length-j/\i2=int i64 j/\Xr (∀i (n:i<a.length),i<j->fH f.length L b[k] a[i]=true)/\Xr (V=w.drewN S))
  ·exact⟨0,u,by omega,by omega,rfl,fun i n h=>by omega,E⟩
  obtain⟨j,S,C,av,rfl,g,l⟩:=hrel;by_cases s:j<a.length
  ·have K:ae [] w wr:=(by rw[l.o];exact bR.drewN _);have hA:=h.XE K;obtain⟨p0,p1,p2⟩:=(hp.XE K).cells;rcases T.XP with ⟨_,O,_⟩ | ⟨ga,ca,G,ag,H,ai,-⟩
   ·have:b.length=0:=O;omega
   rcases U.XP with ⟨_,O,_⟩ | ⟨gb,cb,I,al,J,an,-⟩
   ·have:a.length=0:=O;omega
   have d1:wr.cell? ⟨ga,k,none⟩=some (int i64 b[k]):=(T.XJ (fun x R=>K.block x (T.lt R) (by simp))).cell G k (int i64 b[k]) (mm b k t);have d2:wr.cell? ⟨gb,j,none⟩=some (int i64 a[j]):=(U.XJ (fun x R=>K.block x (U.lt R) (by simp))).cell I j (int i64 a[j]) (mm a j s);have ap:b.length<=o.cap:=H;have ar:a.length<=z.cap:=J;have ax:(k:Int)<b.length:=(by omega);have az:(j:Int)<a.length:=(by omega);have x1:=A _ (TP t);have x2:=B _ (TP s);have q:Xr _:=OS (side:=f.length) (ms:=L) k j t s;have r:Xr (fH f.length L b[k] a[j]=true->∀i (n:i<a.length),i<j+1->fH f.length L b[k] a[i]=true):=by
    intro hh i n aS;by_cases e:i=j
    ·subst e;exact hh
    ·exact g.o i n (by omega)
   have W:=fun nq=>zF d f L y9 ya b[k] a[j] (wr.drewN nq) (hA.XE (bR.drewN nq)) P Q x1 x2;obtain⟨ad,Z⟩:=o;obtain⟨af,ac⟩:=z;simp only at G I;subst G;subst I;clear g hA p0 p1;generalize b[k]=X at *;generalize a[j]=Y at *;have p:Xr _:=W;clear W;cases F:fH f.length L X Y
   ·have y:Xr _:=q.o F;rw[F]at p;clear q r c;(go_upto_region 7 with fail);go_quiet ((go_at_call 216;exact T0 (p.o _)));go_wp2;go_ret;exact⟨aF y.o.symm,_,by rw[l.o];exact Wt _ _ _⟩
   ·have y:Xr _:=r.o F;rw[F]at p;clear q r;(go_upto_region 7 with fail);go_quiet ((go_at_call 216;exact T0 (p.o _)));go_wp2;go_roundg (a.length-(j+1))
    ·exact⟨j+1,_,by omega,rfl,by go_num,y.o,by show _=_;rw[l.o];exact Wt _ _ _⟩
    omega
  ·have HN:Xr (∀i j (n:i<b.length) (C:j<a.length),i<k+1->fH f.length L b[i] a[j]=true):=by
    intro i j' n D aT;by_cases e:i=k
    ·subst e;exact g.o j' D (by omega)
    ·exact c.o i j' n D (by omega)
   clear g c;go_wp2;go_roundg (b.length-(k+1))
   ·exact⟨k+1,S,by omega,rfl,by go_num,HN,l⟩
   omega
 ·have y:Xr (wm f.length L b a=true):=Me (fun i j n C=>c.o i j n C (by omega));clear c;go_wp2;go_ret;exact⟨aF y.o.symm,u,E.o⟩
structure jg(w:World)(g N:Nat)(F:Nat->Xv)(K:Nat->Hd):Prop where
 arr:∃arr,w.heap[g]?=some (.cells arr 24)/\arr.size=N/\∀n,n<N->arr[n]?=some (slice (K n).ao (F n).length (K n).cap)
 X9:∀n,n<N->aB w (K n) (bD (F n))
 off:∀n,n<N->(K n).XS≠some g
theorem jg.XE(h:jg H l S z4 y)(q:ae [] H N):jg N l S z4 y:=by
 obtain⟨a,c,d,e⟩:=h.arr;exact⟨⟨a,q.get c (by simp),d,e⟩,fun n b=>(h.X9 n b).XJ (fun x f=>q.block x ((h.X9 n b).lt f) (by simp)),h.off⟩
theorem jg.cell(h:jg H l S z4 y)(n:Nat)(d:n<S):H.cell? ⟨l,n,none⟩=some (slice (y n).ao (z4 n).length (y n).cap):=by
 obtain⟨a,b,e,c⟩:=h.arr;rw[ah b];exact c n d
theorem jg.free(h:jg H l S z4 y)(n:Nat):H.frozen? ⟨l,n,none⟩=false:=by
 obtain⟨a,b,c,d⟩:=h.arr;exact am b n
theorem jg.lt(h:jg H l S z4 y):l<H.heap.size:=by
 obtain⟨a,b,c,d⟩:=h.arr;exact aj b
def GI(F:Nat->Xv)(k:Nat)(v:Xv):Nat->Xv:=fun n=>if n=k then v else F n
theorem jg.store{k:Nat}(h:jg H l S z4 y)(v:Xv)(c:Hd)(o:aB H c (bD v))(f:c.XS≠some l) :
  jg (H.setCell ⟨l,k,none⟩ (slice c.ao v.length c.cap)) l S (GI z4 k v) (iJ y k c):=by
 obtain⟨g,i,e,j⟩:=h.arr;refine⟨⟨_,ab i _ _,by simpa using e,?_⟩,?_,?_⟩
 ·intro n b;by_cases a:n=k
  ·subst a;rw[dI];simp[e,b,GI]
  ·rw[cd _ _ _ _ a];rw[Wy (by omega)];simp only[GI,if_neg a];exact j n b
 ·intro n b;by_cases a:n=k
  ·subst a;rw[dI];simp only[GI,if_pos];exact o.XJ (fun x d=>TM _ _ _ _ (by rintro rfl;exact f d))
  ·rw[cd _ _ _ _ a];simp only[GI,if_neg a];exact(h.X9 n b).XJ (fun x d=>TM _ _ _ _ (by rintro rfl;exact h.off n b d))
 ·intro n b;by_cases a:n=k
  ·subst a;rw[dI];exact f
  ·rw[cd _ _ _ _ a];exact h.off n b
def kp(vs:Xt)(bs:List Xt)(k n:Nat):Xv:=if n<k then jU vs (bs.getD n []) else []
theorem jg.congr{c:Nat->Xv}(h:jg H l S z4 y)(e:∀n,n<S->z4 n=c n):jg H l S c y:=by
 obtain⟨b,d,f,g⟩:=h.arr;exact⟨⟨b,d,f,fun n a=>by rw[<-e n a];exact g n a⟩,fun n a=>by rw[<-e n a];exact h.X9 n a,h.off⟩
set_option maxRecDepth 100000
theorem GQ(a:List Ex)(w:World)(hp:zg w m z5 z6 M v d)(h:lB w d f L y9 ya)(ad:f.length<=10000)(z:aB w o (ii a))(X:a.length<=10000)(y:∀e∈a,kZ w e.hd e.xs/\e.xs.length<=10000) :
  Calls prog 277 #[pointer (some ⟨m,0,none⟩),slice o.ao a.length o.cap] w fun e Q=>∃(I:Nat) (K:Nat->Hd),e=returned (slice (some ⟨I,0,none⟩) a.length a.length)/\jg Q I a.length (kp f (a.map Ex.xs) a.length) K/\ae [] w Q:=by
 obtain⟨i0,hi,B,C,D⟩:=TZ QI;have O:=fun w=>dG (P:=prog) w 181 24 i0 _ underlying181 hi B a.length 1 C (by rw[D];omega) (by omega);obtain⟨n,c⟩:∃n,n=madeCells (slice none 0 0).cells (a.length*1):=⟨_,rfl⟩
 rw[<-c]at O;have F:Xr (jg (w.alloc (.cells n 24)) w.heap.size a.length (kp f (a.map Ex.xs) 0) nN):=by
  refine⟨⟨n,Tu _ _,by rw[c,U7];omega,?_⟩,?_,fun v _ e=>by simp[nN,Hd.XS]at e⟩
  ·intro v J;have e:kp f (a.map Ex.xs) 0 v=[]:=(by unfold kp;rw[Tp (by omega)]);rw[e,c];exact BA _ _ _ (by omega)
  ·intro v J;have e:kp f (a.map Ex.xs) 0 v=[]:=(by unfold kp;rw[Tp (by omega)]);rw[e];exact Ty _ _ _ _
 clear c;go_enter func277,ntmps277;go_wp2
 go_loopg [6] a.length (fun gk i wr=>∃(k:Nat) (K:Nat->Hd),k<=a.length/\gk=a.length-k/\i=int i64 k/\jg wr w.heap.size a.length (kp f (a.map Ex.xs) k) K/\ae [] w wr)
 ·exact⟨0,nN,by omega,by omega,rfl,F.o,(ae.refl _ _).alloc _⟩
 obtain⟨k,K,hk,hg,rfl,t,j⟩:=hrel;clear F O;by_cases b:k<a.length
 ·rcases z.XP with ⟨_,W,_⟩ | ⟨gb,G,r,-,s,-⟩
  ·have:a.length=0:=W;omega
  have l:aB wr o (ii a):=z.XJ (fun x hx=>j.block x (z.lt hx) (by simp));have U:=l.cell r k (xx a[k]) (tT a k b);have Y:a.length<=o.cap:=s;obtain⟨A,af⟩:=y a[k] (TP b);have R:=xT m z5 z6 M v d f L y9 ya a[k].hd a[k].xs wr (hp.XE j) (h.XE j) (by omega) (A.XE j) (by omega);have q:Xr (∀v,v<a.length->GI (kp f (a.map Ex.xs) k) k (jU f a[k].xs) v=kp f (a.map Ex.xs) (k+1) v):=by
   intro v J;unfold GI kp;by_cases e:v=k
   ·subst e;simp[b]
   ·rw[Tp e];by_cases H:v<k
    ·rw[Tr H,Tr (by omega)]
    ·rw[Tp H,Tp (by omega)]
  unfold xx at U;obtain⟨ao,T⟩:=o;simp only at r;subst r;have ac:=t.lt;clear l;generalize a[k]=V at *;go_wp2_with fail;refine R.mono ?_;rintro e w2 ⟨Z,rfl,o2,n2,N⟩;have g:=t.XE N;have c2:=g.cell k b;have f2:=g.free;have S:Xr _:=((g.store (k:=k) (jU f V.xs) Z o2 (fun e=>by have:=n2 _ e;omega)).congr q.o);have u:=(j.trans N);have p:Xr (∀E,ae [] w (w2.setCell ⟨w.heap.size,k,none⟩ E)):=fun E=>u.setCell (TE (Tq _)) E;go_wp2;go_roundg (a.length-(k+1))
  ·exact⟨k+1,_,by omega,rfl,by go_num,S.o,p.o _⟩
  omega
 ·have e:k=a.length:=by omega
  subst e;go_wp2;go_ret;exact⟨_,K,rfl,t,j⟩
def qh(l:List St)(a:Nat)(S:Xt×List Xt)(vs:Xt)(ms:List Bool)(i j:Nat):Bool :=
 !(fH S.1.length (gM l a S.1) i j)||wm vs.length ms (jU vs (S.2.getD i [])) (jU vs (S.2.getD j []))
def xR(l:List St)(a:Nat)(S:Xt×List Xt)(vs:Xt)(ms:List Bool):Bool :=
 decide (∀i,i<S.1.length->∀j,j<S.1.length->i<j->qh l a S vs ms i j=true)
theorem xS(l:List St)(HR:Nat->Hd)(b:Xt)(q:List Bool)(hv hm:Hd)(f:Xt)(a:List Ex)(H:Nat->Hd)(A:World)(hp:zg A m z5 z6 M v d)(h:lB A d b q hv hm)(av:q.length=b.length*b.length)(af:b.length<=10000)(hr:fM A z5 z6 l HR)(ok:jV l)(O:mX A w f a H)(N:f.length<=10000)(ag:∀e∈a,e.xs.length<=10000) :
  Calls prog 274 #[pointer (some ⟨m,0,none⟩),int i64 n,pointer (some ⟨w,0,none⟩)] A fun e I=>e=returned (bool (xR l n (f,a.map Ex.xs) b q))/\ae [] A I:=by
 obtain⟨p0,p1,p2⟩:=hp.cells;obtain⟨s0,s1⟩:=O.cells;have E:Xr (a.length=f.length):=O.len;have ap:a.length<=10000:=by rw[E.o];exact N
 obtain⟨R,V⟩:∃R,Xr (R=xR l n (f,a.map Ex.xs) b q):=⟨_,rfl⟩
 rw[<-V.o];have T:∀s,ae [] A s->aB s (H 0) (aE f):=fun s G=>(O.XE G).bag.X9 0;have U:∀s,ae [] A s->aB s (H 1) (ii a):=fun s G=>(O.XE G).bag.X9 1;have P:Xr _:=fun s (G:ae [] A s)=>Mi z5 z6 n l HR (H 0) f s (hr.XE G) ok (T s G) N;have HC:Xr (∀I,ae [] A.drew I->I.cell? ⟨m,0,none⟩=some (pointer (some ⟨z5,z6,none⟩))/\I.cell? ⟨w,0,none⟩=some (slice (H 0).ao f.length (H 0).cap)):=by
  intro I k;exact⟨(hp.XE ((ae.refl [] A).drew.trans k)).cells.1,(O.XE ((ae.refl [] A).drew.trans k)).cells.1⟩
 go_enter func274,ntmps274;go_upto_region 1 with fail
 go_region_held3 (fun I=>I.cell? ⟨m,0,none⟩=some (pointer (some ⟨z5,z6,none⟩))/\I.cell? ⟨w,0,none⟩=some (slice (H 0).ao f.length (H 0).cap)) (go_keep) (first | (go_at_call 210;refine(P.o _ (by exact bR.drew)).mono ?_;rintro e s ⟨aS,az,ar,rfl,A2,-,-,G⟩;obtain⟨x0,x1⟩:=HC.o s G));have W:=(ae.refl [] A).drew.trans G;have ad:=O.XE W;obtain⟨y0,y1⟩:=ad.cells;have WI:=GQ m z5 z6 M v d b q hv hm (H 1) a s (hp.XE W) (h.XE W) af (U s W) ap (fun e he=>⟨(ad.exs e he).view,ag e he⟩);have ac:=mC l n f l.length;go_wp2_with fail;refine WI.mono ?_;rintro e w2 ⟨g2,K,rfl,G2,k2⟩;have ai:=A2.XE k2;have K2:=W.trans k2;have ax:=hp.XE K2;have L:=h.XE K2;have HT:Xr (R=true ↔ ∀i,i<a.length->∀j,j<a.length->i<j->qh l n (f,a.map Ex.xs) b q i j=true):=by
  show _ ↔ _;rw[V.o,E.o];unfold xR;rw[decide_eq_true_iff]
 have Q:Xr (∀v,∀x∈kp b (a.map Ex.xs) a.length v,x<b.length):=by
  intro v x hx;unfold kp at hx;split at hx
  ·exact LI hx
  ·cases hx
 have S:Xr (∀v,v<a.length->(kp b (a.map Ex.xs) a.length v).length<=10000):=by
  intro v hn;unfold kp;rw[Tr hn];refine TF (GR _ _) ?_;rw[To];simp[hn];exact ag _ (TP hn)
 have al:Xr (∀i j,i<a.length->j<a.length->qh l n (f,a.map Ex.xs) b q i j=(!(fH f.length (gM l n f) i j)||wm b.length q (kp b (a.map Ex.xs) a.length i) (kp b (a.map Ex.xs) a.length j))):=by
  intro i j hi hj;unfold qh kp;rw[Tr hi,Tr hj]
 clear WI T U P HC y0 y1 p0 p1 p2 s0 s1 x0 x1;go_wp2
 go_loopg [9] a.length (fun gk iv wr=>∃(i:Nat),i<=a.length/\gk=a.length-i/\iv=int i64 i/\Xr (∀z,z<i->∀c,c<a.length->z<c->qh l n (f,a.map Ex.xs) b q z c=true)/\ae [] w2 wr)
 ·exact⟨0,by omega,by omega,rfl,fun z a1=>by omega,ae.refl _ _⟩
 obtain⟨i,hi,hg,rfl,p,hK⟩:=hrel;by_cases y:i<a.length
 ·go_wp2_with fail
  go_loopg [10] (a.length-(i+1)) (fun an jv aT=>∃(j:Nat),i+1<=j/\j<=a.length/\an=a.length-j/\jv=int i64 j/\Xr (∀c,i<c->c<j->qh l n (f,a.map Ex.xs) b q i c=true)/\ae [] w2 aT)
  ·exact⟨i+1,by omega,by omega,by omega,by go_num,fun c h1 L=>by omega,hK⟩
  obtain⟨j,a3,hj,a0,rfl,t,g⟩:=hrel;clear hK;by_cases u:j<a.length
  ·have hA:=ai.XE g;have Z:=G2.XE g;have d1:=Z.cell i y;have d2:=Z.cell j u;have q1:=S.o i y;have q2:=S.o j u;have a2:(i:Int)<a.length:=(by omega);have a4:(j:Int)<a.length:=(by omega);have AP:=fun nq=>zF aS f (gM l n f) az ar i j (wr.drewN nq) (hA.XE (bR.drewN nq)) ac N (by rw[<-E.o];exact y) (by rw[<-E.o];exact u);have AR:=fun nq=>AW m z5 z6 M v d b q hv hm (K i) (K j) (kp b (a.map Ex.xs) a.length i) (kp b (a.map Ex.xs) a.length j) (wr.drewN nq) ((ax.XE g).XE (bR.drewN nq)) ((L.XE g).XE (bR.drewN nq)) av af ((Z.XE (bR.drewN nq)).X9 i y) ((Z.XE (bR.drewN nq)).X9 j u) (by omega) (by omega) (Q.o i) (Q.o j);have r:Xr _:=al.o i j y u;have C:Xr (qh l n (f,a.map Ex.xs) b q i j=true->∀c,i<c->c<j+1->qh l n (f,a.map Ex.xs) b q i c=true):=by
    intro hh c h1 L;by_cases e:c=j
    ·subst e;exact hh
    ·exact t.o c h1 (by omega)
   have F:Xr (qh l n (f,a.map Ex.xs) b q i j=false->R=false):=by
    intro hh;cases e:R
    ·rfl
    ·have:=HT.o.1 e i y j u (by omega);rw[this]at hh;cases hh
   have B:Xr _:=AP;have D:Xr _:=AR;clear AP AR p t Z hA;generalize kp b (a.map Ex.xs) a.length i=X at *;generalize kp b (a.map Ex.xs) a.length j=Y at *;cases hb:fH f.length (gM l n f) i j
   ·have J:Xr _:=C.o (by rw[r.o,hb];rfl);rw[hb]at B;clear F C;(go_upto_region 9 with fail);go_quiet (first | (go_at_call 216;exact T0 (B.o _)));go_wp2;go_roundg (a.length-(j+1))
    ·exact⟨j+1,by omega,by omega,rfl,by go_num,J.o,g.drewN _⟩
    omega
   ·rw[hb]at B;cases hc:wm b.length q X Y
    ·have J:Xr _:=F.o (by rw[r.o,hb,hc];rfl);rw[hc]at D;clear F C;(go_upto_region 9 with fail);go_quiet (first | (go_at_call 216;exact T0 (B.o _)) | (go_at_call 278;exact WX (D.o _)));go_wp2;go_ret;exact⟨aF J.o.symm,K2.trans (g.drewN _)⟩
    ·have J:Xr _:=C.o (by rw[r.o,hb,hc];rfl);rw[hc]at D;clear F C;(go_upto_region 9 with fail);go_quiet (first | (go_at_call 216;exact T0 (B.o _)) | (go_at_call 278;exact WX (D.o _)));go_wp2;go_roundg (a.length-(j+1))
     ·exact⟨j+1,by omega,by omega,rfl,by go_num,J.o,g.drewN _⟩
     omega
  ·have HN:Xr (∀z,z<i+1->∀c,c<a.length->z<c->qh l n (f,a.map Ex.xs) b q z c=true):=by
    intro z h1 c L h3;by_cases e:z=i
    ·subst e;exact t.o c h3 (by omega)
    ·exact p.o z (by omega) c L h3
   clear t p;go_wp2;go_roundg (a.length-(i+1))
   ·exact⟨i+1,by omega,rfl,by go_num,HN,g⟩
   omega
 ·have J:Xr (R=true):=HT.o.2 (fun z h1 c L h3=>p.o z (by omega) c L h3);clear p;go_wp2;go_ret;exact⟨aF J.o.symm,K2.trans hK⟩
def vM(l:List St)(a n:Nat):Option Xs:=match l[n]? with
 | some s=>if(s.XU==2)=true/\fE l n a=true then some (aN s) else none
 | none=>none
def qr(l:List St)(a k:Nat):Xt:=(List.range k).filterMap (vM l a)
def rQ(l:List St)(a:Nat):Xt:=qr l a l.length
theorem Mj(h:w<b.length)(a:(b[w].XU==2)=true)(c:fE b w n=true):qr b n (w+1)=qr b n w++[aN b[w]]:=by
 unfold qr;rw[UU,Vx];simp[vM,h,a,c]
theorem OU(h:w<b.length)(a:(b[w].XU==2)=false∨fE b w n=false):qr b n (w+1)=qr b n w:=by
 unfold qr;rw[UU,Vx];have:vM b n w=none:=by
  unfold vM;rw[Tn h];simp only;rw[Tp];rintro ⟨c,d⟩;rcases a with a | a
  ·rw[a]at c;cases c
  ·rw[a]at d;cases d
 simp[this]
theorem CD:(qr b n w).length<=w:=by
 have:=Wl (vM b n) (List.range w);unfold qr;simpa using this
theorem rP(h:fM x M v b z7)(ok:jV b) :
  Calls prog 209 #[pointer (some ⟨M,v,none⟩),int i64 d] x fun e w'=>∃c:Hd,e=returned (slice c.ao (rQ b d).length c.cap)/\aB w' c (aE (rQ b d))/\(∀l,c.XS=some l->x.heap.size<=l)/\ae [] x w':=by
 obtain⟨i0,hi,U,V,W⟩:=TZ kg;have Y:=ok.len;go_enter func209,ntmps209;go_wp2
 go_loopg [5,6] b.length (fun gk sv i wr=>∃(k:Nat) (c:Hd),k<=b.length/\gk=b.length-k/\i=int i64 k/\sv=slice c.ao (qr b d k).length c.cap/\aB wr c (aE (qr b d k))/\(∀l,c.XS=some l->x.heap.size<=l)/\ae [] x wr)
 ·exact⟨0,⟨none,0⟩,by omega,by omega,rfl,rfl,Ty _ _ _ _,by intro l z;simp[Hd.XS]at z,ae.refl _ _⟩
 obtain⟨k,c,hk,hg,rfl,rfl,R,C,P⟩:=hrel;have J:=h.XE P;have ac:=CD b d k;by_cases f:k<b.length
 ·have af:=ok.syms k f;have F:Xr _:=Mj b d k f;have g:Xr _:=OU b d k f;have L:=pV b[k] (z7 (10+2*k)) (z7 (11+2*k));unfold fS at L;have K:Xr _:=L;clear L;go_upto_region 6 with (first | (go_at_call 81;refine(fa M v b z7 _ (by exact J)).mono ?_;rintro e wc ⟨rfl,w⟩;rw[w]) | (go_at_call 98;refine(bF M v k b z7 _ (by exact J) f).mono ?_;rintro e w3 ⟨rfl,T⟩;unfold fS))
  obtain⟨G,o⟩:∃G,G=w3.alloc (.cells #[int i64 b[k].XU,string b[k].XV,slice (z7 (10+2*k)).ao b[k].Xz.length (z7 (10+2*k)).cap,slice (z7 (11+2*k)).ao b[k].XK.length (z7 (11+2*k)).cap,string b[k].XY.XZ,int i64 b[k].XY.X0,int i64 b[k].XY.X3,int i64 b[k].til] 158):=⟨_,rfl⟩
  have s:ae [] wr G:=by rw[o];exact T.alloc _
  have B4:=f9 o.symm;rw[<-o];clear o;obtain⟨u0,u1,u2,u3,u4,u5,u6,u7⟩:=wt B4;have t:=J.XE s;have m:aB G c (aE (qr b d k)):=R.XJ (fun l z=>s.block l (R.lt z) (by simp));have S:=(t.XQ.syms k b[k] (Tn f)).view;have r:=P.trans s;cases X:(b[k].XU==2)
  ·have p:Xr _:=g.o (TH X);clear F g;go_wp2;go_roundg (b.length-(k+1))
   ·exact⟨k+1,c,by omega,rfl,by go_num,by rw[p.o],by rw[p.o];exact m,C,r⟩
   omega
  ·cases H:fE b k d
   ·have p:Xr _:=g.o (TE H);clear F g;go_wp2_with (go_at_call 188;refine(iy M v k d b z7 _ (by exact t) f).mono ?_;rintro e wd ⟨rfl,y⟩;rw[y,H]);go_roundg (b.length-(k+1))
    ·exact⟨k+1,c,by omega,rfl,by go_num,by rw[p.o],by rw[p.o];exact m,C,r⟩
    omega
   ·have p:Xr _:=F.o X H;clear F g;go_wp2_with (first | (go_at_call 188;refine(iy M v k d b z7 _ (by exact t) f).mono ?_;rintro e wd ⟨rfl,y⟩;rw[y,H]) | (go_at_call 190;refine(K.o _ (by exact S) (by omega)).mono ?_;rintro e w5 ⟨rfl,k5⟩;have D:=m.XJ (fun l z=>(k5.alloc (.cells #[string (aN b[k])] 9)).block l (m.lt z) (by simp))) | (at_builtin;refine aL _ rfl (.tmp 26) (.tmp 29) 61 rfl i0 (string ⟨#[]⟩) 16 c (aE (qr b d k)) underlying61 hi U V W rfl TR rfl (by exact D) ⟨_,0,none⟩ 1 1 [string (aN b[k])] rfl rfl ?d1 ?d2 TR ?d3 ?d4 ?_))
    case d1=>intro j u I;match j,I with | 0,I=>simp at I;subst I;simp[Addr.add]
    case d2=>intro u Z;simp at Z;subst Z;rfl
    case d3=>simp only[aE];unfold maxLen;omega
    case d4=>simp only[aE];omega
    intro N A w6 E q a;rw[dX (qr b d k) (aN b[k]),<-p.o]at E;have B:=(r.trans k5).alloc (.cells #[string (aN b[k])] 9);have Q:=B.grown q C;have ad:x.heap.size<=N:=by
     rcases a with e | e
     ·exact C N e
     ·have:=B.size;simp at e this;omega
    have O:Xr ((aE (qr b d k)).n+1=(qr b d (k+1)).length):=ci (by rw[p.o];simp[aE]);rw[O.o];clear q a D;go_wp2;go_roundg (b.length-(k+1))
    ·exact⟨k+1,⟨some ⟨N,0,none⟩,A⟩,by omega,rfl,by go_num,rfl,E,by intro l z;simp[Hd.XS]at z;omega,Q⟩
    omega
 ·have e:k=b.length:=by omega
  subst e;go_wp2_with (go_at_call 81;refine(fa M v b z7 _ (by exact J)).mono ?_;rintro e wc ⟨rfl,w⟩;rw[w]);go_ret;exact⟨c,rfl,R,C,P⟩
def zu:St:=⟨0,⟨#[]⟩,[],[],⟨⟨#[]⟩,0,0⟩,0⟩
abbrev OP:=List ByteArray×List (List ByteArray)
def j4(l:List St):Xv->List Xt->OP->Int×OP
 | h :: hs,e :: es,S=>if((lV (l.getD h zu) e S).1==0)=true then j4 l hs es (lV (l.getD h zu) e S).2 else lV (l.getD h zu) e S
 | _,_,S=>(0,S)
def qu(l:List St)(n:Nat)(vs:Xt)(ms:List Bool)(sy:Xt)(R:Int×OP):Int×Xt :=
 if(R.1==0)=true then(if xR l n R.2 vs ms=true then(0,mH R.2.1 R.2.2 sy) else(9,[])) else(R.1,[])
def gJ(l:List St)(n:Nat)(vs:Xt)(ms:List Bool)(th:List Xt):Int×Xt :=
 if th.length<(aP l n).length then(6,[])
 else qu l n vs ms (l.getD n zu).Xz (j4 l (aP l n) (th.drop (th.length-(aP l n).length)) ([],[]))
theorem Bk(h:w<b.length):b.getD w zu=b[w]:=by rw[To,Tn h];rfl
theorem JK(S:OP)(i:Nat)(a:i<T.length)(c:i<y6.length)(d:T[i]<b.length) :
  j4 b (T.drop i) (y6.drop i) S=if((lV b[T[i]] y6[i] S).1==0)=true then j4 b (T.drop (i+1)) (y6.drop (i+1)) (lV b[T[i]] y6[i] S).2 else lV b[T[i]] y6[i] S:=by
 rw[TV a,TV c,j4,Bk b _ d]
theorem Fk(S:OP)(i:Nat)(a:¬i<T.length):j4 b (T.drop i) y6 S=(0,S):=by
 rw[US (by omega)];cases y6 <;> rfl
structure L7(S:OP)(N:Nat):Prop where
 one:S.1.length<=N
 two:∀y∈S.2,y.length<=10000
theorem Pc(s:St)(e:Xt)(S:OP)(N:Nat)(h:L7 S N)(b:e.length<=10000):L7 (lV s e S).2 (N+1):=by
 have c:=h.one;unfold lV;split
 ·split <;> exact⟨by simp only;omega,h.two⟩
 ·split
  ·exact⟨by simp only;omega,h.two⟩
  ·next x r =>
   split
   ·refine⟨by simp;omega,fun y a=>?_⟩;simp at a;rcases a with a | rfl
    ·exact h.two y a
    ·simp at b;omega
   ·exact⟨by simp only;omega,h.two⟩
theorem JW(k:Nat):∀x∈eN b w k,x<k:=by
 induction k with
 | zero=>intro x a;simp[eN]at a
 | succ k c =>
  intro x a;cases h:nL b (io b w) w k
  ·rw[ve b w k h]at a;have:=c x a;omega
  ·rw[xM b w k h]at a;simp at a;rcases a with a | rfl
   ·have:=c x a;omega
   ·omega
theorem Dj(h:S∈aP yr l):S<yr.length:=JW yr l yr.length S h
theorem aB.cutE(o:aB H yg (ii i))(c:Nat)(w:c<=i.length):aB H yg (ii (i.take c)):=by
 have e:(i.take c).length=c:=by simp;omega
 refine⟨by simp[ii,CZ],?_⟩;rcases o.2 with ⟨f,u⟩ | ⟨g,a,b,f,r,s,l,n,p,q⟩
 ·left
  have:i.length=0:=u;have t:i=[]:=Uf this;subst t;simp[ii]at f ⊢;exact f
 ·right
  have m:i.length<=a:=l;refine⟨g,a,b,?_,r,s,?_,n,p,?_⟩
  ·injection f with j v k
   simp only[ii];rw[j,k]
  ·show(i.take c).length<=a
   omega
  ·show b.toList.take ((i.take c).length*1)=CZ (i.take c);have d:b.toList.take (i.length*1)=CZ i:=q;rw[e];unfold CZ at d ⊢;rw[WG,<-d,WV];congr 1;omega
def qk(sh th:List Ex):Nat->eR
 | 0=>ii sh
 | 1=>ii th
 | _+2=>ii []
def iU(rb ro g n tb:Nat)(sh th:List Ex)(H:Nat->Hd):List Value :=
 [pointer (some ⟨rb,ro,none⟩),slice (some ⟨g,0,none⟩) n n,pointer (some ⟨tb,0,none⟩),slice (H 0).ao sh.length (H 0).cap,slice (H 1).ao th.length (H 1).cap]
structure vK(w:World)(b rb ro g n tb:Nat)(sh th:List Ex)(H:Nat->Hd):Prop where
 bag:bG w b 307 (iU rb ro g n tb sh th H) (qk sh th) H
 shs:∀e∈sh,sA w b H e.hd e.xs/\e.xs.length<=32
 ths:∀e∈th,sA w b H e.hd e.xs/\e.xs.length<=32
theorem vK.XE(h:vK H l S I D s y2 i y3 y)(k:ae [] H N):vK N l S I D s y2 i y3 y :=
 ⟨h.bag.XE k,fun e a=>⟨(h.shs e a).1.XE k,(h.shs e a).2⟩,fun e a=>⟨(h.ths e a).1.XE k,(h.ths e a).2⟩⟩
theorem vK.ctx(h:vK H l S I D s y2 i y3 y):zg H l S I D s y2:=⟨_,_,h.bag.XS,rfl,rfl,rfl⟩
theorem vK.cells{g:Nat}(h:vK H l S I g D s i y3 y) :
  H.cell? ⟨l,3,none⟩=some (slice (y 0).ao i.length (y 0).cap)/\H.cell? ⟨l,4,none⟩=some (slice (y 1).ao y3.length (y 1).cap):=⟨h.bag.cell 3,h.bag.cell 4⟩
structure EU(w:World)(rb ro g tb:Nat)(l:List St)(HR K:Nat->Hd)(vs:Xt)(ms:List Bool)(hv hm:Hd):Prop where
 recd:fM w rb ro l HR
 ok:jV l
 all:iH w g l l.length K
 ap:lB w tb vs ms hv hm
 hml:ms.length=vs.length*vs.length
 hvl:vs.length<=10000
theorem EU.XE{a:Hd}(h:EU H l S I D yr y yt y7 ys yg a)(k:ae [] H N):EU N l S I D yr y yt y7 ys yg a :=
 ⟨h.recd.XE k,h.ok,h.all.XE k,h.ap.XE k,h.hml,h.hvl⟩
structure mW(w0 w:World)(b rb ro g n tb:Nat)(sh th:List Ex)(H:Nat->Hd):Prop where
 ply:vK w b rb ro g n tb sh th H
 XR:ae [] w0 w
 hb:w0.heap.size<=b
 hin:∀x,ik H x->w0.heap.size<=x
theorem mW.XE{a:World}(h:mW H N l S I D s y2 i y3 y)(k:ae [] N a):mW H a l S I D s y2 i y3 y :=
 ⟨h.ply.XE k,h.XR.trans k,h.hb,h.hin⟩
section
attribute [local go_sem] xC
theorem sA.turned(f:sA H l y yg y7)(t:aD l H y N yt):sA N l yt yg y7:=by
 refine⟨f.view.keptP t.1 (fun x c=>?_),fun x c=>?_⟩
 ·obtain⟨_,a,b⟩:=f.far x c;rintro (e | e)
  ·exact a e
  ·exact b e
 ·obtain⟨d,a,b⟩:=f.far x c;exact⟨Tw d t.1.size,a,t.fresh x d b⟩
theorem bG.reset{b:List Value}{a rows':Nat->eR}(h:bG H l S b a y)(c:Nat)(u:Value)(o:∀i,aB H (y i) (rows' i)) :
  bG (H.setCell ⟨l,c,none⟩ u) l S (b.set c u) rows' y/\aD l H y (H.setCell ⟨l,c,none⟩ u) y:=by
 obtain⟨d,e⟩:=h.set c u;refine⟨⟨d.XS,fun i=>(o i).XJ (fun k f=>TM _ _ _ _ ?_),h.apart,h.off⟩,e⟩;rintro rfl;exact h.off i f
theorem tU:sA y5 d z7 ⟨none,0⟩ []:=⟨TH rfl,fun x a=>by simp[Hd.XS]at a⟩
theorem zG(y z g O a:Nat)(l:List St)(HR K:Nat->Hd)(J:Xt)(G:List Bool)(hv hm:Hd)(I b:List Ex)(H:Nat->Hd)(E:EU y5 y z g O l HR K J G hv hm)(P:mW y5 x w y z g l.length O I b H)(hn:a<l.length)(hA:nJ l a=true)(ck:b.length<=2000000) :
  Calls prog 262 #[pointer (some ⟨w,0,none⟩),int i64 a] x fun e u=>∃(aT:List Ex) (B:Ex),
   e=returned (tuple #[slice B.hd.ao B.xs.length B.hd.cap,int i64 (gJ l a J G (b.map Ex.xs)).1])/\B.xs=(gJ l a J G (b.map Ex.xs)).2/\mW y5 u w y z g l.length O I aT H/\sA u w H B.hd B.xs /\
   (((gJ l a J G (b.map Ex.xs)).1==0)=true->aT=b.take (b.length-(aP l a).length))/\aT.length<=b.length:=by
 have Ew:=E.XE P.XR;have b1:=E.ok.len;obtain⟨p0,p1,p2⟩:=P.ply.ctx.cells;obtain⟨p3,p4⟩:=P.ply.cells;have bk:mw l l.length a=aP l a:=by unfold mw;rw[Tr ⟨hn,hA⟩]
 have ca:=Ew.all.cell a hn;have oa:=Ew.all.X9 a hn;rw[bk]at ca oa;obtain⟨AO,a1⟩:=bn ((K a).ao);rw[a1.o]at ca;have cj:(aP l a).length<=l.length:=pE l a l.length;have bg:∀i (hi:i<(aP l a).length),(aP l a)[i]<l.length:=fun i hi=>Dj (TP hi);have cf:(a:Int)<l.length:=by omega
 have b0:¬(a:Int) ≥ l.length:=by omega
 clear bk p2 p3;by_cases hu:b.length<(aP l a).length
 ·have HF:Xr (gJ l a J G (b.map Ex.xs)=(6,[])):=by show _=_;unfold gJ;rw[TT,Tr hu]
  have b2:(b.length:Int)-(aP l a).length<0:=by omega
  go_enter func262,ntmps262;go_wp2;exact Tz (v:=tuple #[slice none 0 0,int i64 6]) (by simp[results,results262,go_sem]) rfl
   ⟨b,⟨⟨none,0⟩,[]⟩,by rw[HF.o];rfl,by rw[HF.o],P,tU _ _ _,by rw[HF.o];simp,Tq _⟩
 ·obtain⟨f,hf⟩:∃f,b.length-(aP l a).length=f:=⟨_,rfl⟩
  have cc:(b.length:Int)-(aP l a).length=(f:Int):=by omega
  have b6:¬(f:Int)<0:=by omega
  obtain⟨RR,a4⟩:∃RR,Xr (RR=j4 l (aP l a) ((b.map Ex.xs).drop f) ([],[])):=⟨_,rfl⟩
  have HF:Xr (gJ l a J G (b.map Ex.xs)=qu l a J G l[a].Xz RR):=by
   show _=_;unfold gJ;rw[TT,Tp hu,Bk l a hn,hf,a4.o]
  rw[hf];have bf:f+(aP l a).length=b.length:=by omega
  have a2:Xr _:=bf;clear hf bf;obtain⟨W,hW⟩:∃W,W=x.alloc (.cells #[slice none 0 0,slice none 0 0] 343):=⟨_,rfl⟩
  have kW:=fI hW.symm;have SI:mX W x.heap.size [] [] nN:=by
   rw[hW];refine⟨⟨Tu _ _,?_,fun i j _=>TH rfl,fun i e=>by simp[nN,Hd.XS]at e⟩,rfl,by simp⟩;intro i
   match i with
   | 0=>exact Ty _ _ _ _
   | 1=>exact Ty _ _ _ _
   | m+2=>exact Ty _ _ _ _
  have HW:Xr _:=hW.symm;clear hW;go_enter func262,ntmps262;go_upto_region 8 with fail
  rw[HW.o];clear HW p0 p1 p4 ca;go_wp2
  go_loopg [9] (aP l a).length (fun gk iv wr=>∃(i:Nat) (S:OP) (r:List Ex) (Hs:Nat->Hd),i<=(aP l a).length/\gk=(aP l a).length-i/\iv=int i64 i/\L7 S i/\r.map Ex.xs=S.2/\Xr (RR=j4 l ((aP l a).drop i) (((b.map Ex.xs).drop f).drop i) S)/\mX wr x.heap.size S.1 r Hs/\(∀c,ik Hs c->x.heap.size<=c)/\(∀e∈r,e.hd.XS≠some w)/\ae [] x wr)
  ·exact⟨0,([],[]),[],nN,by omega,by omega,rfl,⟨by simp,by simp⟩,rfl,a4.o,SI,fun c d=>by obtain⟨i,hi⟩:=d;simp[nN,Hd.XS]at hi,by simp,kW⟩
  obtain⟨i,S,r,Hs,hi,hg,rfl,C,ad,hR,hS,U,av,hK⟩:=hrel;by_cases Y:i<(aP l a).length
  ·obtain⟨A,S2⟩:=S;simp only at ad;subst ad;have Pr:=P.XE hK;have az:f+i<b.length:=by have:=a2.o;omega
   have oT:aB wr (H 1) (ii b):=Pr.ply.bag.X9 1;rcases oT.XP with ⟨_,h0,_⟩ | ⟨N,a7,et,-,ar,-⟩
   ·have:b.length=0:=h0;omega
   have oH:aB wr (K a) (bD (aP l a)):=oa.XJ (fun c d=>hK.block c (oa.lt d) (by simp));rcases oH.XP with ⟨_,h0,_⟩ | ⟨gh,bx,eh,-,b4,-⟩
   ·have:(aP l a).length=0:=h0;omega
   have ch:=oH.cell eh i (int i64 (aP l a)[i]) (mm _ i Y);have ct:=oT.cell et (f+i) (xx b[f+i]) (tT b (f+i) az);obtain rfl:AO=some ⟨gh,0,none⟩:=a1.o.symm.trans eh;have bc:b.length<=(H 1).cap:=ar;have s:=(P.ply.ths b[f+i] (TP az));have af:=bg i Y;have M:Xr _:=(hR.o.trans (JK l (aP l a) ((b.map Ex.xs).drop f) (A,r.map Ex.xs) i Y (by simp;omega) af));have e1:((b.map Ex.xs).drop f)[i]'(by simp;omega)=b[f+i].xs:=(by simp);rw[e1]at M;have a0:=Pc l[(aP l a)[i]] b[f+i].xs (A,r.map Ex.xs) i C (by omega);have FT:=fun(w3:World) (D:ae [] wr w3)=>Pd x.heap.size A r Hs l[(aP l a)[i]] (HR (10+2*(aP l a)[i])) (HR (11+2*(aP l a)[i])) b[f+i].hd b[f+i].xs w3 (hS.XE D) (by have:=C.one;simp only at this;omega) (fun e n=>C.two _ (Wj n)) ((((E.XE (Pr.XR.trans D)).recd.XQ.syms _ l[(aP l a)[i]] (Tn af)).view)) (E.ok.syms _ af) ⟨(s.1.XE (hK.trans D)).view,fun c d=>⟨Tw (s.1.far c d).1 (hK.trans D).size,by have:=(s.1.far c d).1;omega,fun hm=>by have:=U c hm;have:=(s.1.far c d).1;omega⟩⟩ (by omega);have ST:=fun(w3:World) (D:ae [] wr w3)=>bF y z (aP l a)[i] l HR w3 (E.XE (Pr.XR.trans D)).recd af;have p4:=Pr.ply.cells.2;have p0:=Pr.ply.ctx.cells.1;rw[et]at p4;have T:Xr (∀u,ae [] x u->u.cell? ⟨w,0,none⟩=some (pointer (some ⟨y,z,none⟩))/\u.cell? ⟨gh,i,none⟩=some (int i64 (aP l a)[i])/\u.cell? ⟨w,4,none⟩=some (slice (some ⟨N,0,none⟩) b.length (H 1).cap)/\u.cell? ⟨N,f+i,none⟩=some (xx b[f+i])):=by
    intro u k;have P':=P.XE k;refine⟨P'.ply.ctx.cells.1,(oa.XJ (fun c d=>k.block c (oa.lt d) (by simp))).cell eh i _ (mm _ i Y),?_,(P'.ply.bag.X9 1).cell et (f+i) (xx b[f+i]) (tT b (f+i) az)⟩;rw[<-et];exact P'.ply.cells.2
   have a3:Xr (∀c,(c=x.heap.size∨ik Hs c)->x.heap.size<=c):=by
    rintro c (e | e)
    ·omega
    ·exact U c e
   have R:Xr _:=FT;have a5:Xr _:=ST;have b3:IntKind.i64.wrap ((f:Int)+i)=(f:Int)+i:=(by rw[UX];omega);have bz:(0:Int)<=(f:Int)+i:=(by omega);have bT:(f:Int)+i<b.length:=(by omega);have cl:((f:Int)+i).toNat=f+i:=(by omega);have ax:=s.1.far;clear FT ST hR e1 oT oH s et eh;unfold xx at ct T;generalize b[f+i]=B at *;generalize (aP l a)[i]=aS at *;generalize lV l[aS] B.xs (A,r.map Ex.xs)=Q at *;obtain⟨q,S9⟩:=Q;simp only at M a0 R;have br:B.hd.XS≠some w:=fun e=>(ax w e).2.1 rfl;cases hq:(q==0)
   ·have bs:(q != 0)=true:=(by simp[bne,hq]);have F:Xr (gJ l a J G (b.map Ex.xs)=(q,[])):=ci (by rw[HF.o,M.o,Tp (by rw[hq];simp)];simp[qu,hq]);clear M;(go_upto_region 11 with fail);go_region_held3 (fun u=>u.cell? ⟨w,0,none⟩=some (pointer (some ⟨y,z,none⟩))/\u.cell? ⟨gh,i,none⟩=some (int i64 aS)/\u.cell? ⟨w,4,none⟩=some (slice (some ⟨N,0,none⟩) b.length (H 1).cap)/\u.cell? ⟨N,f+i,none⟩=some (slice B.hd.ao B.xs.length B.hd.cap)) (go_keep) (first | (go_at_call 98;refine(a5.o _ (by exact bR.drew)).mono ?_;rintro e w3 ⟨rfl,D⟩;obtain⟨x0,x1,x2,x3⟩:=T.o w3 (hK.drew.trans D)) | (go_at_call 273;refine(R.o _ (by exact bR.drew.trans D)).mono ?_;rintro e w9 ⟨an,H9,rfl,a6,ag,T9,Z⟩;have K9:=(hK.drew.trans D).ofP T9.1 a3.o;obtain⟨z0,z1,z2,z3⟩:=T.o w9 K9))
    all_goals
     clear z0 z1 z2 z3 x0 x1 x2 x3;go_wp2;exact Tz (v:=tuple #[slice none 0 0,int i64 q]) (by simp[results,results262,go_sem]) rfl
      ⟨b,⟨⟨none,0⟩,[]⟩,by rw[F.o];rfl,by rw[F.o],P.XE K9,tU _ _ _,fun hh=>by rw[F.o]at hh;exact absurd (hq.symm.trans hh) (by simp),Tq _⟩
   ·have bs:(q != 0)=false:=(by simp[bne,hq]);have F:Xr (RR=j4 l ((aP l a).drop (i+1)) (((b.map Ex.xs).drop f).drop (i+1)) S9):=ci (by rw[M.o,Tr hq]);clear M;(go_upto_region 11 with fail);go_region_held3 (fun u=>u.cell? ⟨w,0,none⟩=some (pointer (some ⟨y,z,none⟩))/\u.cell? ⟨gh,i,none⟩=some (int i64 aS)/\u.cell? ⟨w,4,none⟩=some (slice (some ⟨N,0,none⟩) b.length (H 1).cap)/\u.cell? ⟨N,f+i,none⟩=some (slice B.hd.ao B.xs.length B.hd.cap)) (go_keep) (first | (go_at_call 98;refine(a5.o _ (by exact bR.drew)).mono ?_;rintro e w3 ⟨rfl,D⟩;obtain⟨x0,x1,x2,x3⟩:=T.o w3 (hK.drew.trans D)) | (go_at_call 273;refine(R.o _ (by exact bR.drew.trans D)).mono ?_;rintro e w9 ⟨an,H9,rfl,a6,ag,T9,Z⟩;have K9:=(hK.drew.trans D).ofP T9.1 a3.o;obtain⟨z0,z1,z2,z3⟩:=T.o w9 K9))
    all_goals
     have bl:∀c,ik H9 c->x.heap.size<=c:=fun c d=>by
      rcases T9.2 c d with e | e
      ·exact U c e
      ·exact TF (hK.drew.trans D).size e
     have bo:∀e∈an,e.hd.XS≠some w:=fun e n=>by
      rcases Z e n with q | q
      ·exact av e q
      ·rw[q];exact br
     clear z0 z1 z2 z3 x0 x1 x2 x3;go_wp2;go_roundg ((aP l a).length-(i+1))
     ·exact⟨i+1,S9,an,H9,by omega,rfl,by go_num,a0,ag,F.o,a6,bl,bo,K9⟩
     omega
  ·obtain⟨A,S2⟩:=S;simp only at ad;subst ad;have ac:Xr (gJ l a J G (b.map Ex.xs)=qu l a J G l[a].Xz (0,(A,r.map Ex.xs))):=by
    show _=_;rw[HF.o,hR.o,Fk _ _ _ _ _ Y]
   have Pr:=P.XE hK;have Er:=E.XE Pr.XR;have bv:=C.one;simp only at bv;have KA:=xS w y z g l.length O a x.heap.size l HR J G hv hm A r Hs wr Pr.ply.ctx Er.ap E.hml E.hvl Er.recd E.ok hS (by omega) (fun e n=>C.two _ (Wj n));clear hR;cases hk:xR l a (A,r.map Ex.xs) J G
   ·have F:Xr (gJ l a J G (b.map Ex.xs)=(9,[])):=(by show _=_;rw[ac.o];simp[qu,hk]);rw[hk]at KA;clear ac;(go_upto_region 15 with (go_at_call 274;refine KA.mono ?_;rintro e L ⟨rfl,k2⟩));go_wp2;exact Tz (v:=tuple #[slice none 0 0,int i64 9]) (by simp[results,results262,go_sem]) rfl
     ⟨b,⟨⟨none,0⟩,[]⟩,by rw[F.o];rfl,by rw[F.o],Pr.XE k2,tU _ _ _,by rw[F.o];simp,Tq _⟩
   ·have F:Xr (gJ l a J G (b.map Ex.xs)=(0,mH A (r.map Ex.xs) l[a].Xz)):=(by show _=_;rw[ac.o];simp[qu,hk]);rw[hk]at KA;clear ac;(go_upto_region 16 with (go_at_call 274;refine KA.mono ?_;rintro e L ⟨rfl,k2⟩));have t:=Pr.XE k2;have p:=hS.XE k2;have p4:=t.ply.cells.2;have y4:=t.ply.bag.free;have oT:aB L (H 1) (ii b):=t.ply.bag.X9 1;have ai:f<=b.length:=(by have:=a2.o;omega);have b5:x.heap.size > w:=P.ply.bag.lt;rcases oT.XP with ⟨e0,h0,-⟩ | ⟨N,a7,et,-,ar,-⟩
    ·have ba:b.length=0:=h0;have bd:f=0:=(by omega);have al:Xr (slice none 0 0=slice (H 1).ao (b.take f).length (H 1).cap):=ci (by rw[e0,bd];rfl);rw[e0,ba]at p4;clear e0 h0 ba;(go_upto_region 17 with fail);have D5:Xr (bG (L.setCell ⟨w,4,none⟩ (slice none 0 0)) w 307 (iU y z g l.length O I (b.take f) H) (qk I (b.take f)) H/\aD w L H (L.setCell ⟨w,4,none⟩ (slice none 0 0)) H):=by
      have q:=t.ply.bag.reset (rows':=qk I (b.take f)) 4 (slice none 0 0) (by
       intro j
       match j with
       | 0=>exact t.ply.bag.X9 0
       | 1=>exact oT.cutE f ai
       | m+2=>exact t.ply.bag.X9 (m+2))
      have e:(iU y z g l.length O I b H).set 4 (slice none 0 0)=iU y z g l.length O I (b.take f) H:=by
       simp only[iU,List.set_cons_succ,List.set_cons_zero];rw[al.o]
      rw[e]at q;exact q
     generalize hX:L.setCell ⟨w,4,none⟩ (slice none 0 0)=X at D5 ⊢;have kX:ae [] y5 X:=by rw[<-hX];exact t.XR.setCell (TE P.hb) _
     have PX:mW y5 X w y z g l.length O I (b.take f) H:=⟨⟨D5.o.1,fun e n=>⟨(t.ply.shs e n).1.turned D5.o.2,(t.ply.shs e n).2⟩,fun e n=>⟨(t.ply.ths e (Vl n)).1.turned D5.o.2,(t.ply.ths e (Vl n)).2⟩⟩,kX,P.hb,P.hin⟩;have kb:fL (fun c=>c=w) L X:=(by rw[<-hX];exact(fL.refl (fun c=>c=w) L).setCell (TH (show w=w from rfl)) _);have SX:mX X x.heap.size A r Hs:=⟨p.bag.keptP kb (by omega) (fun c d=>by have:=U c d;omega),p.len,fun e n=>⟨(p.exs e n).view.keptP kb (fun c d e2=>av e n (e2 ▸ d)),(p.exs e n).adr,fun c d=>⟨Tw ((p.exs e n).far c d).1 kb.size,((p.exs e n).far c d).2⟩⟩⟩;have p0:=PX.ply.ctx.cells.1;have bp:=PX.ply.bag.lt;have V:=fun c (d:ik H c)=>PX.ply.bag.inlt d;have bj:=E.ok.syms a hn;have EX:=E.XE kX;clear hX p4 y4 KA;go_wp2_with (first | (go_at_call 98;refine(bF y z a l HR _ (by exact EX.recd) hn).mono ?_;rintro e w6 ⟨rfl,k6⟩;unfold fS) | (go_at_call 275;refine(qR x.heap.size A r Hs (HR (10+2*a)) l[a].Xz _ (by exact SX.XE k6) (by omega) (fun e n=>C.two _ (Wj n)) (((EX.XE k6).recd.XQ.syms a l[a] (Tn hn)).view) (by omega)).mono ?_;rintro e w7 ⟨hd,rfl,o7,n7,k7⟩));have bw:=k6.size;exact Tz (v:=tuple #[slice hd.ao (mH A (r.map Ex.xs) l[a].Xz).length hd.cap,int i64 0]) (by simp[results,results262,go_sem]) rfl
      ⟨b.take f,⟨hd,mH A (r.map Ex.xs) l[a].Xz⟩,by rw[F.o],by rw[F.o],PX.XE (k6.trans k7),⟨o7.view,fun c d=>⟨o7.lt d,by have:=n7 c d;omega,fun hm=>by have:=n7 c d;have:=V c hm;omega⟩⟩,fun _=>rfl,by simp;omega⟩
    ·have al:Xr (slice (some ⟨N,0,none⟩) f (H 1).cap=slice (H 1).ao (b.take f).length (H 1).cap):=(by show _=_;rw[et];simp;omega);have bc:b.length<=(H 1).cap:=ar;have cb:(f:Int)<=(H 1).cap:=(by omega);rw[et]at p4;clear et;(go_upto_region 17 with fail);have D5:Xr (bG (L.setCell ⟨w,4,none⟩ (slice (some ⟨N,0,none⟩) f (H 1).cap)) w 307 (iU y z g l.length O I (b.take f) H) (qk I (b.take f)) H/\aD w L H (L.setCell ⟨w,4,none⟩ (slice (some ⟨N,0,none⟩) f (H 1).cap)) H):=by
      have q:=t.ply.bag.reset (rows':=qk I (b.take f)) 4 (slice (some ⟨N,0,none⟩) f (H 1).cap) (by
       intro j
       match j with
       | 0=>exact t.ply.bag.X9 0
       | 1=>exact oT.cutE f ai
       | m+2=>exact t.ply.bag.X9 (m+2))
      have e:(iU y z g l.length O I b H).set 4 (slice (some ⟨N,0,none⟩) f (H 1).cap)=iU y z g l.length O I (b.take f) H:=by
       simp only[iU,List.set_cons_succ,List.set_cons_zero];rw[al.o]
      rw[e]at q;exact q
     generalize hX:L.setCell ⟨w,4,none⟩ (slice (some ⟨N,0,none⟩) f (H 1).cap)=X at D5 ⊢;have kX:ae [] y5 X:=by rw[<-hX];exact t.XR.setCell (TE P.hb) _
     have PX:mW y5 X w y z g l.length O I (b.take f) H:=⟨⟨D5.o.1,fun e n=>⟨(t.ply.shs e n).1.turned D5.o.2,(t.ply.shs e n).2⟩,fun e n=>⟨(t.ply.ths e (Vl n)).1.turned D5.o.2,(t.ply.ths e (Vl n)).2⟩⟩,kX,P.hb,P.hin⟩;have kb:fL (fun c=>c=w) L X:=(by rw[<-hX];exact(fL.refl (fun c=>c=w) L).setCell (TH (show w=w from rfl)) _);have SX:mX X x.heap.size A r Hs:=⟨p.bag.keptP kb (by omega) (fun c d=>by have:=U c d;omega),p.len,fun e n=>⟨(p.exs e n).view.keptP kb (fun c d e2=>av e n (e2 ▸ d)),(p.exs e n).adr,fun c d=>⟨Tw ((p.exs e n).far c d).1 kb.size,((p.exs e n).far c d).2⟩⟩⟩;have p0:=PX.ply.ctx.cells.1;have bp:=PX.ply.bag.lt;have V:=fun c (d:ik H c)=>PX.ply.bag.inlt d;have bj:=E.ok.syms a hn;have EX:=E.XE kX;clear hX p4 y4 KA;go_wp2_with (first | (go_at_call 98;refine(bF y z a l HR _ (by exact EX.recd) hn).mono ?_;rintro e w6 ⟨rfl,k6⟩;unfold fS) | (go_at_call 275;refine(qR x.heap.size A r Hs (HR (10+2*a)) l[a].Xz _ (by exact SX.XE k6) (by omega) (fun e n=>C.two _ (Wj n)) (((EX.XE k6).recd.XQ.syms a l[a] (Tn hn)).view) (by omega)).mono ?_;rintro e w7 ⟨hd,rfl,o7,n7,k7⟩));have bw:=k6.size;exact Tz (v:=tuple #[slice hd.ao (mH A (r.map Ex.xs) l[a].Xz).length hd.cap,int i64 0]) (by simp[results,results262,go_sem]) rfl
      ⟨b.take f,⟨hd,mH A (r.map Ex.xs) l[a].Xz⟩,by rw[F.o],by rw[F.o],PX.XE (k6.trans k7),⟨o7.view,fun c d=>⟨o7.lt d,by have:=n7 c d;omega,fun hm=>by have:=n7 c d;have:=V c hm;omega⟩⟩,fun _=>rfl,by simp;omega⟩
end
end Go.Proofs.YtnbhnocdhbcbcaaGreat
