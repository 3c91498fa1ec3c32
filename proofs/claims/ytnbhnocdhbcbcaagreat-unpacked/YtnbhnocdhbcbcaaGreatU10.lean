import Derived.Test.YtnbhnocdhbcbcaaGreatU09
namespace Go.Proofs.YtnbhnocdhbcbcaaGreat
open Go.RowKit Tryz
open Value IntKind Ending
set_option maxHeartbeats 0
variable{H z6:World}{l y z5 s z7 y3:Nat}{y9:Xt}{yf yg:Xv}{yt:List Bool}{zt:Nat->Xv}{v yu:Nat->Hd}{ys:List St}{yr:Hd}{M y6:List Ex}(y5 o:World)(d D L a f b:Nat)(w:List St)(n:Xt)(z4:List Bool)(ya:Hd)(y2:Xt)(N:Nat->Hd)(yd m:Hd)(x:Xv)(i:Xt)(T:Nat)(I:World)(S:Nat)(y7:List Xt)
theorem DP(c:aB I m (bu x))(u:x.length<=1073741824) :
  Calls prog 281 #[slice m.ao x.length m.cap,int i64 T] I fun e v=>e=returned (bool (jD x T))/\v=I:=by
 obtain⟨w,r⟩:=m;rcases c.Ys with ⟨t,q,_⟩ | ⟨g,s,p,_⟩
 ·have j:x.length=0:=q;have n:x=[]:=UI j;subst n;clear c q j u t;go_enter func281,ntmps281;go_wp2;refine Wd 1 ?_;rw[Wt];go_wp2;go_ret;exact⟨rfl,rfl⟩
 ·simp only at p;subst p;go_enter func281,ntmps281;go_wp2
  go_loopg [5] x.length (fun g i wr=>∃k:Nat,k<=x.length/\g=x.length-k/\i=int i64 k/\Xr (jD x T=jD (x.drop k) T)/\wr=I)
  ·exact⟨0,by omega,by omega,rfl,rfl,rfl⟩
  obtain⟨k,A,z,rfl,d,rfl⟩:=hrel;by_cases a:k<x.length
  ·have y:=c.cell rfl k (int i64 x[k]) (mx x k a);cases b:(x[k]==T)
   ·have f:Xr (jD x T=jD (x.drop (k+1)) T):=Am x T k a d.o b;have l:=(pS x[k] T).trans b;clear d c b;go_wp2;go_roundg (x.length-(k+1))
    ·exact⟨k+1,by omega,rfl,by go_num,f,rfl⟩
    omega
   ·have f:Xr (jD x T=true):=DD x T k a d.o b;have l:=(pS x[k] T).trans b;clear d c b;go_wp2;go_ret;exact⟨aE f.o.symm,rfl⟩
  ·have f:Xr (jD x T=false):=An x T k a d.o;clear d c;go_wp2;go_ret;exact⟨aE f.o.symm,rfl⟩
structure zA(w:World)(b rb ro g n tb:Nat):Prop where
 Yv:∃arr t,w.heap[b]?=some (.cells arr t)/\arr[0]?=some (pointer (some ⟨rb,ro,none⟩))/\arr[1]?=some (slice (some ⟨g,0,none⟩) n n)/\arr[2]?=some (pointer (some ⟨tb,0,none⟩))
theorem zA.Yh(h:zA H l y z5 s z7 y3)(k:ae [] H z6):zA z6 l y z5 s z7 y3:=by
 obtain⟨a,t,b,c⟩:=h.Yv;exact⟨a,t,k.get b (by simp),c⟩
theorem zA.cells{g:Nat}(h:zA H l y z5 g s z7):H.cell? ⟨l,0,none⟩=some (pointer (some ⟨y,z5,none⟩))/\H.cell? ⟨l,1,none⟩=some (slice (some ⟨g,0,none⟩) s s)/\H.cell? ⟨l,2,none⟩=some (pointer (some ⟨z7,0,none⟩)):=by
 obtain⟨b,t,a,c,d,e⟩:=h.Yv;exact⟨(ah a 0).trans c,(ah a 1).trans d,(ah a 2).trans e⟩
def oN(vs:Xt):Xt->Xv->Xv
 | [],acc=>acc
 | x :: r,acc=>match mN vs x with
  | none=>oN vs r acc
  | some p=>if jD acc p=true then oN vs r acc else oN vs r (acc++[p])
def j5(vs xs:Xt):Xv:=oN vs xs []
theorem Qt(a:S<y2.length):oN n (y2.drop S) x=match mN n y2[S] with
  | none=>oN n (y2.drop (S+1)) x
  | some p=>if jD x p=true then oN n (y2.drop (S+1)) x else oN n (y2.drop (S+1)) (x++[p]):=by
 rw[UB a];rfl
theorem NX(a:¬S<y2.length):oN n (y2.drop S) x=x:=by
 rw[Vm (by omega)];rfl
theorem Eh(c:Xt)(a:Xv)(h:∀p∈a,p<i.length):(∀p∈oN i c a,p<i.length)/\(oN i c a).length<=a.length+c.length:=by
 induction c generalizing a with
 | nil=>exact⟨h,by simp[oN]⟩
 | cons x r d =>
  rw[oN];split
  ·have:=d a h;exact⟨this.1,by simp;omega⟩
  ·next p f =>
   split
   ·have:=d a h;exact⟨this.1,by simp;omega⟩
   ·have:=d (a++[p]) (by intro q b;simp at b;rcases b with b | rfl;exact h q b;exact Jc f);exact⟨this.1,by have e:=this.2;simp at e ⊢;omega⟩
theorem LY{a:Xt}(h:l∈j5 y9 a):l<y9.length:=(Eh y9 a [] (by simp)).1 l h
theorem Hz:(j5 y2 i).length<=i.length:=by have:=(Eh y2 i [] (by simp)).2;unfold j5;simpa using this
set_option maxRecDepth 100000
theorem yj(hp:zA I d D L a f b)(h:lJ I b n z4 ya yd)(hl:n.length<=1073741824)(Y:lj I m i)(Z:i.length<=1000000) :
  Calls prog 280 #[pointer (some ⟨d,0,none⟩),slice m.ao i.length m.cap] I fun e w'=>∃g:Hd,e=returned (slice g.ao (j5 n i).length g.cap)/\aB w' g (bu (j5 n i))/\(∀x,g.Yv=some x->I.heap.size<=x)/\ae [] I w':=by
 obtain⟨i0,hi,ac,ad,af⟩:=UC yb;obtain⟨ao,ag⟩:=m;rcases Y with rfl | ⟨gv,P,ai,t,e1,e2,U,e4,e5⟩
 ·clear Z;go_enter func280,ntmps280;go_wp2;refine Wd 1 ?_;rw[Wt];go_wp2;go_ret;exact⟨⟨none,0⟩,rfl,Uj _ _ _ _,by intro x v;simp[Hd.Yv]at v,ae.refl _ _⟩
 simp only at e1 e4 e5;subst e1;obtain⟨R,HR⟩:∃R,Xr (R=j5 n i):=⟨_,rfl⟩
 rw[<-HR.o];go_enter func280,ntmps280;go_wp2
 go_loopg [5,6] i.length (fun gk sv ax wr=>∃(k:Nat) (g:Hd) (c:Xv),k<=i.length/\gk=i.length-k/\ax=int i64 k/\sv=slice g.ao c.length g.cap/\c.length<=k/\Xr (R=oN n (i.drop k) c)/\aB wr g (bu c)/\(∀x,g.Yv=some x->I.heap.size<=x)/\ae [] I wr)
 ·exact⟨0,⟨none,0⟩,[],by omega,by omega,rfl,rfl,by simp,HR.o,Uj _ _ _ _,by intro x v;simp[Hd.Yv]at v,ae.refl _ _⟩
 obtain⟨k,g,c,hk,hg,rfl,rfl,al,w,M,K,F⟩:=hrel;have hr:=h.Yh F;obtain⟨p0,p1,p2⟩:=(hp.Yh F).cells;by_cases C:k<i.length
 ·have c2:wr.cell? ⟨gv,P+k,none⟩=some (string i[k]):=(ah (F.get e2 (by simp)) (P+k)).trans (U k i[k] (Ub C));have ar:(k:Int)<i.length:=by omega
  have r:Xr _:=w.o.trans (Qt n i c k C);have q:Xr _:=(fun w1 (k1:ae [] wr w1)=>uq b n z4 ya yd i[k] w1 (hr.Yh k1) hl);clear w U p0 p1;generalize i[k]=y at *;rcases hpo:mN n y with _ | p
  ·have A:Xr (R=oN n (i.drop (k+1)) c):=(by show _=_;rw[r.o,hpo]);rw[hpo]at q;simp only[oM]at q;clear r;(go_upto_region 5 with fail);go_quiet ((go_at_call 261;exact UD (q.o _ (bM.drewN _))));go_wp2;go_roundg (i.length-(k+1))
   ·exact⟨k+1,g,c,by omega,rfl,by go_num,rfl,by omega,A.o,M.Ym (fun x v=>((ae.refl [] wr).drewN _).block x (M.lt v) (by simp)),K,F.drewN _⟩
   omega
  ·rw[hpo]at q;simp only[oM]at q;have ap:(p:Int) ≥ 0:=by omega
   (go_upto_region 5 with fail);go_quiet ((go_at_call 261;exact UD (q.o _ (bM.drewN _))));obtain⟨Q,z⟩:∃Q,Q=wr.drewN nq:=⟨_,rfl⟩
   rw[<-z];have s:aB Q g (bu c):=by rw[z];exact M.Ym (fun x v=>((ae.refl [] wr).drewN _).block x (M.lt v) (by simp))
   have J:ae [] I Q:=(by rw[z];exact F.drewN _);clear z;cases S:jD c p
   ·have A:Xr (R=oN n (i.drop (k+1)) (c++[p])):=(by show _=_;rw[r.o,hpo];simp[S]);have N:=s.Ym (fun x v=>((ae.refl [] Q).alloc (.cells #[int i64 p] 3)).block x (s.lt v) (by simp));clear r;(go_upto_region 7 with (go_at_call 281;refine(DP g c p _ (by exact s) (by omega)).mono ?_;rintro e w7 ⟨rfl,E⟩;rw[E,S]));go_wp2_with (at_builtin;refine aN _ rfl (.tmp 31) (.tmp 33) 24 rfl i0 (int i64 0) 8 g (bu c) underlying24 hi ac ad af rfl UA rfl (by exact N) ⟨_,0,none⟩ 1 1 [int i64 p] rfl rfl ?d1 ?d2 UA ?d3 ?d4 ?_)
    case d1=>intro j u T;match j,T with | 0,T=>simp at T;subst T;simp[Addr.add]
    case d2=>intro u hu;simp at hu;subst hu;rfl
    case d3=>simp only[bu];unfold maxLen;omega
    case d4=>simp only[bu];omega
    intro V G w5 O B l;rw[me c p]at O;have H:=J.alloc (.cells #[int i64 p] 3);have X:=H.grown B K;have an:I.heap.size<=V:=by
     rcases l with e | e
     ·exact K V e
     ·have:=H.size;simp at e this;omega
    have W:Xr ((bu c).n+1=(c++[p]).length):=cM (by simp[bu]);rw[W.o];clear B l N;go_wp2;go_roundg (i.length-(k+1))
    ·exact⟨k+1,⟨some ⟨V,0,none⟩,G⟩,c++[p],by omega,rfl,by go_num,rfl,by simp;omega,A.o,O,by intro x v;simp[Hd.Yv]at v;omega,X⟩
    omega
   ·have A:Xr (R=oN n (i.drop (k+1)) c):=(by show _=_;rw[r.o,hpo];simp[S]);clear r;go_wp2_with (go_at_call 281;refine(DP g c p _ (by exact s) (by omega)).mono ?_;rintro e w7 ⟨rfl,E⟩;rw[E,S]);go_roundg (i.length-(k+1))
    ·exact⟨k+1,g,c,by omega,rfl,by go_num,rfl,by omega,A.o,s,K,J⟩
    omega
 ·have A:Xr (c=R):=(w.o.trans (NX n i c k C)).symm;clear w U;go_wp2;go_ret;exact⟨g,by rw[<-A.o];rfl,by rw[<-A.o];exact M,K,F⟩
def wF(side:Nat)(ms:List Bool)(ones others:Xv):Bool:=ones.all (fun i=>others.all (fun j=>fK side ms i j))
theorem Pm{side:Nat}{ms:List Bool}(a:T<yf.length)(b:S<yg.length)(h:fK side ms yf[T] yg[S]=false):wF side ms yf yg=false:=by
 cases e:wF side ms yf yg
 ·rfl
 ·unfold wF at e;rw[U5]at e;have:=e _ (Uu a);rw[U5]at this;rw[this _ (Uu b)]at h;cases h
theorem Mw(h:∀i j (a:i<yf.length) (b:j<yg.length),fK l yt yf[i] yg[j]=true):wF l yt yf yg=true:=by
 unfold wF;rw[U5];intro x c;rw[U5];intro y d;obtain⟨i,a,rfl⟩:=U7 c;obtain⟨j,b,rfl⟩:=U7 d;exact h i j a b
set_option maxRecDepth 512
theorem Bl(B:Hd)(g c:Xv)(w:World)(hp:zA w d D L a f b)(h:lJ w b n z4 ya yd)(R:z4.length=n.length*n.length)(S:n.length<=10000)(V:aB w m (bu g))(W:aB w B (bu c))(a2:g.length<=1000000)(a3:c.length<=1000000)(C:∀x∈g,x<n.length)(E:∀x∈c,x<n.length) :
  Calls prog 278 #[pointer (some ⟨d,0,none⟩),slice m.ao g.length m.cap,slice B.ao c.length B.cap] w fun e w'=>e=returned (bool (wF n.length z4 g c))/\∃z,w'=w.drewN z:=by
 go_enter func278,ntmps278;go_wp2
 go_loopg [7] g.length (fun gk i wr=>∃(k z:Nat),k<=g.length/\gk=g.length-k/\i=int i64 k/\Xr (∀i j (r:i<g.length) (F:j<c.length),i<k->fK n.length z4 g[i] c[j]=true)/\Xr (wr=w.drewN z))
 ·exact⟨0,0,by omega,by omega,rfl,fun i j r F h=>by omega,rfl⟩
 obtain⟨k,z,hk,hg,rfl,l,H⟩:=hrel;by_cases y:k<g.length
 ·go_wp2_with fail
  go_loopg [8] c.length (fun P i2 Z=>∃(j U:Nat),j<=c.length/\P=c.length-j/\i2=int i64 j/\Xr (∀i (r:i<c.length),i<j->fK n.length z4 g[k] c[i]=true)/\Xr (Z=w.drewN U))
  ·exact⟨0,z,by omega,by omega,rfl,fun i r h=>by omega,H⟩
  obtain⟨j,U,F,az,rfl,p,q⟩:=hrel;by_cases v:j<c.length
  ·have K:ae [] w wr:=(by rw[q.o];exact bM.drewN _);have hA:=h.Yh K;obtain⟨p0,p1,p2⟩:=(hp.Yh K).cells;rcases V.Ys with ⟨_,Q,_⟩ | ⟨ga,ca,J,ai,M,al,-⟩
   ·have:g.length=0:=Q;omega
   rcases W.Ys with ⟨_,Q,_⟩ | ⟨gb,cb,N,an,O,ap,-⟩
   ·have:c.length=0:=Q;omega
   have d1:wr.cell? ⟨ga,k,none⟩=some (int i64 g[k]):=(V.Ym (fun x T=>K.block x (V.lt T) (by simp))).cell J k (int i64 g[k]) (mx g k y);have d2:wr.cell? ⟨gb,j,none⟩=some (int i64 c[j]):=(W.Ym (fun x T=>K.block x (W.lt T) (by simp))).cell N j (int i64 c[j]) (mx c j v);have ar:g.length<=m.cap:=M;have ax:c.length<=B.cap:=O;have aS:(k:Int)<g.length:=(by omega);have aT:(j:Int)<c.length:=(by omega);have x1:=C _ (Uu y);have x2:=E _ (Uu v);have t:Xr _:=Pm (side:=n.length) (ms:=z4) k j y v;have u:Xr (fK n.length z4 g[k] c[j]=true->∀i (r:i<c.length),i<j+1->fK n.length z4 g[k] c[i]=true):=by
    intro hh i r a0;by_cases e:i=j
    ·subst e;exact hh
    ·exact p.o i r (by omega)
   have AP:=fun nq=>zZ b n z4 ya yd g[k] c[j] (wr.drewN nq) (hA.Yh (bM.drewN nq)) R S x1 x2;obtain⟨af,ac⟩:=m;obtain⟨ag,ad⟩:=B;simp only at J N;subst J;subst N;clear p hA p0 p1;generalize g[k]=X at *;generalize c[j]=Y at *;have s:Xr _:=AP;clear AP;cases I:fK n.length z4 X Y
   ·have A:Xr _:=t.o I;rw[I]at s;clear t u l;(go_upto_region 7 with fail);go_quiet ((go_at_call 216;exact UD (s.o _)));go_wp2;go_ret;exact⟨aE A.o.symm,_,by rw[q.o];exact Xa _ _ _⟩
   ·have A:Xr _:=u.o I;rw[I]at s;clear t u;(go_upto_region 7 with fail);go_quiet ((go_at_call 216;exact UD (s.o _)));go_wp2;go_roundg (c.length-(j+1))
    ·exact⟨j+1,_,by omega,rfl,by go_num,A.o,by show _=_;rw[q.o];exact Xa _ _ _⟩
    omega
  ·have HN:Xr (∀i j (r:i<g.length) (F:j<c.length),i<k+1->fK n.length z4 g[i] c[j]=true):=by
    intro i j' r G a1;by_cases e:i=k
    ·subst e;exact p.o j' G (by omega)
    ·exact l.o i j' r G (by omega)
   clear p l;go_wp2;go_roundg (g.length-(k+1))
   ·exact⟨k+1,U,by omega,rfl,by go_num,HN,q⟩
   omega
 ·have A:Xr (wF n.length z4 g c=true):=Mw (fun i j r F=>l.o i j r F (by omega));clear l;go_wp2;go_ret;exact⟨aE A.o.symm,z,H.o⟩
structure jm(w:World)(g N:Nat)(F:Nat->Xv)(K:Nat->Hd):Prop where
 arr:∃arr,w.heap[g]?=some (.cells arr 24)/\arr.size=N/\∀n,n<N->arr[n]?=some (slice (K n).ao (F n).length (K n).cap)
 YF:∀n,n<N->aB w (K n) (bu (F n))
 off:∀n,n<N->(K n).Yv≠some g
theorem jm.Yh(h:jm H l y zt v)(q:ae [] H z6):jm z6 l y zt v:=by
 obtain⟨a,c,d,e⟩:=h.arr;exact⟨⟨a,q.get c (by simp),d,e⟩,fun n b=>(h.YF n b).Ym (fun x f=>q.block x ((h.YF n b).lt f) (by simp)),h.off⟩
theorem jm.cell(h:jm H l y zt v)(n:Nat)(d:n<y):H.cell? ⟨l,n,none⟩=some (slice (v n).ao (zt n).length (v n).cap):=by
 obtain⟨a,b,e,c⟩:=h.arr;rw[ah b];exact c n d
theorem jm.free(h:jm H l y zt v)(n:Nat):H.frozen? ⟨l,n,none⟩=false:=by
 obtain⟨a,b,c,d⟩:=h.arr;exact am b n
theorem jm.lt(h:jm H l y zt v):l<H.heap.size:=by
 obtain⟨a,b,c,d⟩:=h.arr;exact aj b
def G8(F:Nat->Xv)(k:Nat)(v:Xv):Nat->Xv:=fun n=>if n=k then v else F n
theorem jm.store{k:Nat}(h:jm H l y zt v)(e:Xv)(c:Hd)(o:aB H c (bu e))(g:c.Yv≠some l) :
  jm (H.setCell ⟨l,k,none⟩ (slice c.ao e.length c.cap)) l y (G8 zt k e) (ie v k c):=by
 obtain⟨i,j,f,m⟩:=h.arr;refine⟨⟨_,ab j _ _,by simpa using f,?_⟩,?_,?_⟩
 ·intro n b;by_cases a:n=k
  ·subst a;rw[dH];simp[f,b,G8]
  ·rw[b9 _ _ _ _ a];rw[Xg (by omega)];simp only[G8,if_neg a];exact m n b
 ·intro n b;by_cases a:n=k
  ·subst a;rw[dH];simp only[G8,if_pos];exact o.Ym (fun x d=>Ut _ _ _ _ (by rintro rfl;exact g d))
  ·rw[b9 _ _ _ _ a];simp only[G8,if_neg a];exact(h.YF n b).Ym (fun x d=>Ut _ _ _ _ (by rintro rfl;exact h.off n b d))
 ·intro n b;by_cases a:n=k
  ·subst a;rw[dH];exact g
  ·rw[b9 _ _ _ _ a];exact h.off n b
def kF(vs:Xt)(bs:List Xt)(k n:Nat):Xv:=if n<k then j5 vs (bs.getD n []) else []
theorem jm.congr{c:Nat->Xv}(h:jm H l y zt v)(e:∀n,n<y->zt n=c n):jm H l y c v:=by
 obtain⟨b,d,f,g⟩:=h.arr;exact⟨⟨b,d,f,fun n a=>by rw[<-e n a];exact g n a⟩,fun n a=>by rw[<-e n a];exact h.YF n a,h.off⟩
set_option maxRecDepth 100000
theorem Hw(c:List Ex)(w:World)(hp:zA w d D L a f b)(h:lJ w b n z4 ya yd)(af:n.length<=10000)(C:aB w m (im c))(Z:c.length<=10000)(B:∀e∈c,lj w e.hd e.xs/\e.xs.length<=10000) :
  Calls prog 277 #[pointer (some ⟨d,0,none⟩),slice m.ao c.length m.cap] w fun e S=>∃(N:Nat) (K:Nat->Hd),e=returned (slice (some ⟨N,0,none⟩) c.length c.length)/\jm S N c.length (kF n (c.map Ex.xs) c.length) K/\ae [] w S:=by
 obtain⟨i0,hi,F,G,H⟩:=UC Re;have R:=fun w=>dV (P:=prog) w 181 24 i0 _ underlying181 hi F c.length 1 G (by rw[H];omega) (by omega);obtain⟨r,j⟩:∃r,r=madeCells (slice none 0 0).cells (c.length*1):=⟨_,rfl⟩
 rw[<-j]at R;have I:Xr (jm (w.alloc (.cells r 24)) w.heap.size c.length (kF n (c.map Ex.xs) 0) lB):=by
  refine⟨⟨r,Ui _ _,by rw[j,VH];omega,?_⟩,?_,fun f _ e=>by simp[lB,Hd.Yv]at e⟩
  ·intro f O;have e:kF n (c.map Ex.xs) 0 f=[]:=(by unfold kF;rw[Ud (by omega)]);rw[e,j];exact Cc _ _ _ (by omega)
  ·intro f O;have e:kF n (c.map Ex.xs) 0 f=[]:=(by unfold kF;rw[Ud (by omega)]);rw[e];exact Uj _ _ _ _
 clear j;go_enter func277,ntmps277;go_wp2
 go_loopg [6] c.length (fun gk i wr=>∃(k:Nat) (K:Nat->Hd),k<=c.length/\gk=c.length-k/\i=int i64 k/\jm wr w.heap.size c.length (kF n (c.map Ex.xs) k) K/\ae [] w wr)
 ·exact⟨0,lB,by omega,by omega,rfl,I.o,(ae.refl _ _).alloc _⟩
 obtain⟨k,K,hk,hg,rfl,z,p⟩:=hrel;clear I R;by_cases g:k<c.length
 ·rcases C.Ys with ⟨_,Y,_⟩ | ⟨gb,J,u,-,y,-⟩
  ·have:c.length=0:=Y;omega
  have q:aB wr m (im c):=C.Ym (fun x hx=>p.block x (C.lt hx) (by simp));have W:=q.cell u k (xK c[k]) (tW c k g);have ac:c.length<=m.cap:=y;obtain⟨E,ag⟩:=B c[k] (Uu g);have T:=yj d D L a f b n z4 ya yd c[k].hd c[k].xs wr (hp.Yh p) (h.Yh p) (by omega) (E.Yh p) (by omega);have t:Xr (∀f,f<c.length->G8 (kF n (c.map Ex.xs) k) k (j5 n c[k].xs) f=kF n (c.map Ex.xs) (k+1) f):=by
   intro f O;unfold G8 kF;by_cases e:f=k
   ·subst e;simp[g]
   ·rw[Ud e];by_cases M:f<k
    ·rw[Uf M,Uf (by omega)]
    ·rw[Ud M,Ud (by omega)]
  unfold xK at W;obtain⟨ao,V⟩:=m;simp only at u;subst u;have ad:=z.lt;clear q;generalize c[k]=X at *;go_wp2_with fail;refine T.mono ?_;rintro e w2 ⟨hd,rfl,o2,n2,Q⟩;have l:=z.Yh Q;have c2:=l.cell k g;have f2:=l.free;have U:Xr _:=((l.store (k:=k) (j5 n X.xs) hd o2 (fun e=>by have:=n2 _ e;omega)).congr t.o);have A:=(p.trans Q);have s:Xr (∀v,ae [] w (w2.setCell ⟨w.heap.size,k,none⟩ v)):=fun v=>A.setCell (Uo (Ue _)) v;go_wp2;go_roundg (c.length-(k+1))
  ·exact⟨k+1,_,by omega,rfl,by go_num,U.o,s.o _⟩
  omega
 ·have e:k=c.length:=by omega
  subst e;go_wp2;go_ret;exact⟨_,K,rfl,z,p⟩
def qt(l:List St)(a:Nat)(S:Xt×List Xt)(vs:Xt)(ms:List Bool)(i j:Nat):Bool :=
 !(fK S.1.length (gI l a S.1) i j)||wF vs.length ms (j5 vs (S.2.getD i [])) (j5 vs (S.2.getD j []))
def yh(l:List St)(a:Nat)(S:Xt×List Xt)(vs:Xt)(ms:List Bool):Bool :=
 decide (∀i,i<S.1.length->∀j,j<S.1.length->i<j->qt l a S vs ms i j=true)
theorem yi(l:List St)(HR:Nat->Hd)(g:Xt)(r:List Bool)(hv hm:Hd)(n:Xt)(c:List Ex)(H:Nat->Hd)(w:World)(hp:zA w d D L a f b)(h:lJ w b g r hv hm)(ax:r.length=g.length*g.length)(af:g.length<=10000)(hr:fy w D L l HR)(ok:j6 l)(O:nL w S n c H)(N:n.length<=10000)(ag:∀e∈c,e.xs.length<=10000) :
  Calls prog 274 #[pointer (some ⟨d,0,none⟩),int i64 T,pointer (some ⟨S,0,none⟩)] w fun e I=>e=returned (bool (yh l T (n,c.map Ex.xs) g r))/\ae [] w I:=by
 obtain⟨p0,p1,p2⟩:=hp.cells;obtain⟨s0,s1⟩:=O.cells;have E:Xr (c.length=n.length):=O.len;have ap:c.length<=10000:=by rw[E.o];exact N
 obtain⟨R,Z⟩:∃R,Xr (R=yh l T (n,c.map Ex.xs) g r):=⟨_,rfl⟩
 rw[<-Z.o];have V:∀t,ae [] w t->aB t (H 0) (aD n):=fun t G=>(O.Yh G).bag.YF 0;have W:∀t,ae [] w t->aB t (H 1) (im c):=fun t G=>(O.Yh G).bag.YF 1;have P:Xr _:=fun t (G:ae [] w t)=>MA D L T l HR (H 0) n t (hr.Yh G) ok (V t G) N;have HC:Xr (∀I,ae [] w.drew I->I.cell? ⟨d,0,none⟩=some (pointer (some ⟨D,L,none⟩))/\I.cell? ⟨S,0,none⟩=some (slice (H 0).ao n.length (H 0).cap)):=by
  intro I k;exact⟨(hp.Yh ((ae.refl [] w).drew.trans k)).cells.1,(O.Yh ((ae.refl [] w).drew.trans k)).cells.1⟩
 go_enter func274,ntmps274;go_upto_region 1 with fail
 go_region_held3 (fun I=>I.cell? ⟨d,0,none⟩=some (pointer (some ⟨D,L,none⟩))/\I.cell? ⟨S,0,none⟩=some (slice (H 0).ao n.length (H 0).cap)) (go_keep) (first | (go_at_call 210;refine(P.o _ (by exact bM.drew)).mono ?_;rintro e t ⟨aT,aS,ar,rfl,A2,-,-,G⟩;obtain⟨x0,x1⟩:=HC.o t G));have K1:=(ae.refl [] w).drew.trans G;have ad:=O.Yh K1;obtain⟨y0,y1⟩:=ad.cells;have WI:=Hw d D L a f b g r hv hm (H 1) c t (hp.Yh K1) (h.Yh K1) af (W t K1) ap (fun e he=>⟨(ad.exs e he).view,ag e he⟩);have ac:=mK l T n l.length;go_wp2_with fail;refine WI.mono ?_;rintro e w2 ⟨g2,K,rfl,G2,k2⟩;have ai:=A2.Yh k2;have K2:=K1.trans k2;have az:=hp.Yh K2;have M:=h.Yh K2;have HT:Xr (R=true ↔ ∀i,i<c.length->∀j,j<c.length->i<j->qt l T (n,c.map Ex.xs) g r i j=true):=by
  show _ ↔ _;rw[Z.o,E.o];unfold yh;rw[decide_eq_true_iff]
 have Q:Xr (∀f,∀x∈kF g (c.map Ex.xs) c.length f,x<g.length):=by
  intro f x hx;unfold kF at hx;split at hx
  ·exact LY hx
  ·cases hx
 have U:Xr (∀f,f<c.length->(kF g (c.map Ex.xs) c.length f).length<=10000):=by
  intro f hn;unfold kF;rw[Uf hn];refine Un (Hz _ _) ?_;rw[Uc];simp[hn];exact ag _ (Uu hn)
 have al:Xr (∀i j,i<c.length->j<c.length->qt l T (n,c.map Ex.xs) g r i j=(!(fK n.length (gI l T n) i j)||wF g.length r (kF g (c.map Ex.xs) c.length i) (kF g (c.map Ex.xs) c.length j))):=by
  intro i j hi hj;unfold qt kF;rw[Uf hi,Uf hj]
 clear WI V W P HC y0 y1 p0 p1 p2 s0 s1 x0 x1;go_wp2
 go_loopg [9] c.length (fun gk iv wr=>∃(i:Nat),i<=c.length/\gk=c.length-i/\iv=int i64 i/\Xr (∀z,z<i->∀m,m<c.length->z<m->qt l T (n,c.map Ex.xs) g r z m=true)/\ae [] w2 wr)
 ·exact⟨0,by omega,by omega,rfl,fun z a2=>by omega,ae.refl _ _⟩
 obtain⟨i,hi,hg,rfl,q,hK⟩:=hrel;by_cases y:i<c.length
 ·go_wp2_with fail
  go_loopg [10] (c.length-(i+1)) (fun an jv a0=>∃(j:Nat),i+1<=j/\j<=c.length/\an=c.length-j/\jv=int i64 j/\Xr (∀m,i<m->m<j->qt l T (n,c.map Ex.xs) g r i m=true)/\ae [] w2 a0)
  ·exact⟨i+1,by omega,by omega,by omega,by go_num,fun m h1 M=>by omega,hK⟩
  obtain⟨j,a4,hj,a1,rfl,u,p⟩:=hrel;clear hK;by_cases v:j<c.length
  ·have hA:=ai.Yh p;have hG:=G2.Yh p;have d1:=hG.cell i y;have d2:=hG.cell j v;have q1:=U.o i y;have q2:=U.o j v;have a3:(i:Int)<c.length:=(by omega);have a5:(j:Int)<c.length:=(by omega);have AP:=fun nq=>zZ aT n (gI l T n) aS ar i j (wr.drewN nq) (hA.Yh (bM.drewN nq)) ac N (by rw[<-E.o];exact y) (by rw[<-E.o];exact v);have AR:=fun nq=>Bl d D L a f b g r hv hm (K i) (K j) (kF g (c.map Ex.xs) c.length i) (kF g (c.map Ex.xs) c.length j) (wr.drewN nq) ((az.Yh p).Yh (bM.drewN nq)) ((M.Yh p).Yh (bM.drewN nq)) ax af ((hG.Yh (bM.drewN nq)).YF i y) ((hG.Yh (bM.drewN nq)).YF j v) (by omega) (by omega) (Q.o i) (Q.o j);have s:Xr _:=al.o i j y v;have B:Xr (qt l T (n,c.map Ex.xs) g r i j=true->∀m,i<m->m<j+1->qt l T (n,c.map Ex.xs) g r i m=true):=by
    intro hh m h1 M;by_cases e:m=j
    ·subst e;exact hh
    ·exact u.o m h1 (by omega)
   have F:Xr (qt l T (n,c.map Ex.xs) g r i j=false->R=false):=by
    intro hh;cases e:R
    ·rfl
    ·have:=HT.o.1 e i y j v (by omega);rw[this]at hh;cases hh
   have A:Xr _:=AP;have C:Xr _:=AR;clear AP AR q u hG hA;generalize kF g (c.map Ex.xs) c.length i=X at *;generalize kF g (c.map Ex.xs) c.length j=Y at *;cases hb:fK n.length (gI l T n) i j
   ·have J:Xr _:=B.o (by rw[s.o,hb];rfl);rw[hb]at A;clear F B;(go_upto_region 9 with fail);go_quiet (first | (go_at_call 216;exact UD (A.o _)));go_wp2;go_roundg (c.length-(j+1))
    ·exact⟨j+1,by omega,by omega,rfl,by go_num,J.o,p.drewN _⟩
    omega
   ·rw[hb]at A;cases hc:wF g.length r X Y
    ·have J:Xr _:=F.o (by rw[s.o,hb,hc];rfl);rw[hc]at C;clear F B;(go_upto_region 9 with fail);go_quiet (first | (go_at_call 216;exact UD (A.o _)) | (go_at_call 278;exact XH (C.o _)));go_wp2;go_ret;exact⟨aE J.o.symm,K2.trans (p.drewN _)⟩
    ·have J:Xr _:=B.o (by rw[s.o,hb,hc];rfl);rw[hc]at C;clear F B;(go_upto_region 9 with fail);go_quiet (first | (go_at_call 216;exact UD (A.o _)) | (go_at_call 278;exact XH (C.o _)));go_wp2;go_roundg (c.length-(j+1))
     ·exact⟨j+1,by omega,by omega,rfl,by go_num,J.o,p.drewN _⟩
     omega
  ·have HN:Xr (∀z,z<i+1->∀m,m<c.length->z<m->qt l T (n,c.map Ex.xs) g r z m=true):=by
    intro z h1 m M h3;by_cases e:z=i
    ·subst e;exact u.o m h3 (by omega)
    ·exact q.o z (by omega) m M h3
   clear u q;go_wp2;go_roundg (c.length-(i+1))
   ·exact⟨i+1,by omega,rfl,by go_num,HN,p⟩
   omega
 ·have J:Xr (R=true):=HT.o.2 (fun z h1 m M h3=>q.o z (by omega) m M h3);clear q;go_wp2;go_ret;exact⟨aE J.o.symm,K2.trans hK⟩
def vT(l:List St)(a n:Nat):Option Xs:=match l[n]? with
 | some s=>if(s.Yw==2)=true/\fH l n a=true then some (aL s) else none
 | none=>none
def qx(l:List St)(a k:Nat):Xt:=(List.range k).filterMap (vT l a)
def rV(l:List St)(a:Nat):Xt:=qx l a l.length
theorem MB(h:S<w.length)(a:(w[S].Yw==2)=true)(b:fH w S T=true):qx w T (S+1)=qx w T S++[aL w[S]]:=by
 unfold qx;rw[Vr,WE];simp[vT,h,a,b]
theorem Po(h:S<w.length)(a:(w[S].Yw==2)=false∨fH w S T=false):qx w T (S+1)=qx w T S:=by
 unfold qx;rw[Vr,WE];have:vT w T S=none:=by
  unfold vT;rw[Ub h];simp only;rw[Ud];rintro ⟨b,c⟩;rcases a with a | a
  ·rw[a]at b;cases b
  ·rw[a]at c;cases c
 simp[this]
theorem C1:(qx w T S).length<=S:=by
 have:=XQ (vT w T) (List.range S);unfold qx;simpa using this
theorem rU(h:fy I a f w N)(ok:j6 w) :
  Calls prog 209 #[pointer (some ⟨a,f,none⟩),int i64 b] I fun e w'=>∃d:Hd,e=returned (slice d.ao (rV w b).length d.cap)/\aB w' d (aD (rV w b))/\(∀x,d.Yv=some x->I.heap.size<=x)/\ae [] I w':=by
 obtain⟨i0,hi,V,W,X⟩:=UC jN;have Z:=ok.len;go_enter func209,ntmps209;go_wp2
 go_loopg [5,6] w.length (fun gk sv i wr=>∃(k:Nat) (d:Hd),k<=w.length/\gk=w.length-k/\i=int i64 k/\sv=slice d.ao (qx w b k).length d.cap/\aB wr d (aD (qx w b k))/\(∀x,d.Yv=some x->I.heap.size<=x)/\ae [] I wr)
 ·exact⟨0,⟨none,0⟩,by omega,by omega,rfl,rfl,Uj _ _ _ _,by intro x z;simp[Hd.Yv]at z,ae.refl _ _⟩
 obtain⟨k,d,hk,hg,rfl,rfl,S,C,Q⟩:=hrel;have K:=h.Yh Q;have ac:=C1 w b k;by_cases g:k<w.length
 ·have af:=ok.syms k g;have F:Xr _:=MB w b k g;have l:Xr _:=Po w b k g;have M:=qi w[k] (N (10+2*k)) (N (11+2*k));unfold eW at M;have L:Xr _:=M;clear M;go_upto_region 6 with (first | (go_at_call 81;refine(fF a f w N _ (by exact K)).mono ?_;rintro e wc ⟨rfl,v⟩;rw[v]) | (go_at_call 98;refine(bC a f k w N _ (by exact K) g).mono ?_;rintro e w3 ⟨rfl,U⟩;unfold eW))
  obtain⟨G,o⟩:∃G,G=w3.alloc (.cells #[int i64 w[k].Yw,string w[k].Yx,slice (N (10+2*k)).ao w[k].Yc.length (N (10+2*k)).cap,slice (N (11+2*k)).ao w[k].Yn.length (N (11+2*k)).cap,string w[k].YA.YB,int i64 w[k].YA.YC,int i64 w[k].YA.YD,int i64 w[k].til] 158):=⟨_,rfl⟩
  have s:ae [] wr G:=by rw[o];exact U.alloc _
  have B4:=fE o.symm;rw[<-o];clear o;obtain⟨u0,u1,u2,u3,u4,u5,u6,u7⟩:=zE B4;have t:=K.Yh s;have m:aB G d (aD (qx w b k)):=S.Ym (fun x z=>s.block x (S.lt z) (by simp));have T:=(t.Yt.syms k w[k] (Ub g)).view;have r:=Q.trans s;cases Y:(w[k].Yw==2)
  ·have p:Xr _:=l.o (Us Y);clear F l;go_wp2;go_roundg (w.length-(k+1))
   ·exact⟨k+1,d,by omega,rfl,by go_num,by rw[p.o],by rw[p.o];exact m,C,r⟩
   omega
  ·cases H:fH w k b
   ·have p:Xr _:=l.o (Uo H);clear F l;go_wp2_with (go_at_call 188;refine(iA a f k b w N _ (by exact t) g).mono ?_;rintro e wd ⟨rfl,y⟩;rw[y,H]);go_roundg (w.length-(k+1))
    ·exact⟨k+1,d,by omega,rfl,by go_num,by rw[p.o],by rw[p.o];exact m,C,r⟩
    omega
   ·have p:Xr _:=F.o Y H;clear F l;go_wp2_with (first | (go_at_call 188;refine(iA a f k b w N _ (by exact t) g).mono ?_;rintro e wd ⟨rfl,y⟩;rw[y,H]) | (go_at_call 190;refine(L.o _ (by exact T) (by omega)).mono ?_;rintro e w5 ⟨rfl,k5⟩;have D:=m.Ym (fun x z=>(k5.alloc (.cells #[string (aL w[k])] 9)).block x (m.lt z) (by simp))) | (at_builtin;refine aN _ rfl (.tmp 26) (.tmp 29) 61 rfl i0 (string ⟨#[]⟩) 16 d (aD (qx w b k)) underlying61 hi V W X rfl UA rfl (by exact D) ⟨_,0,none⟩ 1 1 [string (aL w[k])] rfl rfl ?d1 ?d2 UA ?d3 ?d4 ?_))
    case d1=>intro j u J;match j,J with | 0,J=>simp at J;subst J;simp[Addr.add]
    case d2=>intro u hu;simp at hu;subst hu;rfl
    case d3=>simp only[aD];unfold maxLen;omega
    case d4=>simp only[aD];omega
    intro O A w6 E q c;rw[eI (qx w b k) (aL w[k]),<-p.o]at E;have B:=(r.trans k5).alloc (.cells #[string (aL w[k])] 9);have R:=B.grown q C;have ad:I.heap.size<=O:=by
     rcases c with e | e
     ·exact C O e
     ·have:=B.size;simp at e this;omega
    have P:Xr ((aD (qx w b k)).n+1=(qx w b (k+1)).length):=cM (by rw[p.o];simp[aD]);rw[P.o];clear q c D;go_wp2;go_roundg (w.length-(k+1))
    ·exact⟨k+1,⟨some ⟨O,0,none⟩,A⟩,by omega,rfl,by go_num,rfl,E,by intro x z;simp[Hd.Yv]at z;omega,R⟩
    omega
 ·have e:k=w.length:=by omega
  subst e;go_wp2_with (go_at_call 81;refine(fF a f w N _ (by exact K)).mono ?_;rintro e wc ⟨rfl,v⟩;rw[v]);go_ret;exact⟨d,rfl,S,C,Q⟩
def zN:St:=⟨0,⟨#[]⟩,[],[],⟨⟨#[]⟩,0,0⟩,0⟩
abbrev Pg:=List ByteArray×List (List ByteArray)
def ke(l:List St):Xv->List Xt->Pg->Int×Pg
 | h :: hs,e :: es,S=>if((l8 (l.getD h zN) e S).1==0)=true then ke l hs es (l8 (l.getD h zN) e S).2 else l8 (l.getD h zN) e S
 | _,_,S=>(0,S)
def qC(l:List St)(n:Nat)(vs:Xt)(ms:List Bool)(sy:Xt)(R:Int×Pg):Int×Xt :=
 if(R.1==0)=true then(if yh l n R.2 vs ms=true then(0,nZ R.2.1 R.2.2 sy) else(9,[])) else(R.1,[])
def ii(l:List St)(n:Nat)(vs:Xt)(ms:List Bool)(th:List Xt):Int×Xt :=
 if th.length<(aM l n).length then(6,[])
 else qC l n vs ms (l.getD n zN).Yc (ke l (aM l n) (th.drop (th.length-(aM l n).length)) ([],[]))
theorem wU(h:S<w.length):w.getD S zN=w[S]:=by rw[Uc,Ub h];rfl
theorem J7(S:Pg)(i:Nat)(a:i<x.length)(b:i<y7.length)(c:x[i]<w.length) :
  ke w (x.drop i) (y7.drop i) S=if((l8 w[x[i]] y7[i] S).1==0)=true then ke w (x.drop (i+1)) (y7.drop (i+1)) (l8 w[x[i]] y7[i] S).2 else l8 w[x[i]] y7[i] S:=by
 rw[UB a,UB b,ke,wU w _ c]
theorem FK(S:Pg)(i:Nat)(a:¬i<x.length):ke w (x.drop i) y7 S=(0,S):=by
 rw[Vm (by omega)];cases y7 <;> rfl
structure Mq(S:Pg)(N:Nat):Prop where
 one:S.1.length<=N
 two:∀y∈S.2,y.length<=10000
theorem PE(s:St)(e:Xt)(S:Pg)(N:Nat)(h:Mq S N)(b:e.length<=10000):Mq (l8 s e S).2 (N+1):=by
 have c:=h.one;unfold l8;split
 ·split <;> exact⟨by simp only;omega,h.two⟩
 ·split
  ·exact⟨by simp only;omega,h.two⟩
  ·next x r =>
   split
   ·refine⟨by simp;omega,fun y a=>?_⟩;simp at a;rcases a with a | rfl
    ·exact h.two y a
    ·simp at b;omega
   ·exact⟨by simp only;omega,h.two⟩
theorem Kj(k:Nat):∀x∈eQ w S k,x<k:=by
 induction k with
 | zero=>intro x a;simp[eQ]at a
 | succ k b =>
  intro x a;cases h:nW w (iu w S) S k
  ·rw[vj w S k h]at a;have:=b x a;omega
  ·rw[xY w S k h]at a;simp at a;rcases a with a | rfl
   ·have:=b x a;omega
   ·omega
theorem DH(h:y∈aM ys l):y<ys.length:=Kj ys l ys.length y h
theorem aB.cutE(o:aB H yr (im M))(c:Nat)(v:c<=M.length):aB H yr (im (M.take c)):=by
 have e:(M.take c).length=c:=by simp;omega
 refine⟨by simp[im,Dp],?_⟩;rcases o.2 with ⟨f,t⟩ | ⟨g,a,b,f,q,r,k,m,n,p⟩
 ·left
  have:M.length=0:=t;have s:M=[]:=UI this;subst s;simp[im]at f ⊢;exact f
 ·right
  have l:M.length<=a:=k;refine⟨g,a,b,?_,q,r,?_,m,n,?_⟩
  ·injection f with i u j
   simp only[im];rw[i,j]
  ·show(M.take c).length<=a
   omega
  ·show b.toList.take ((M.take c).length*1)=Dp (M.take c);have d:b.toList.take (M.length*1)=Dp M:=p;rw[e];unfold Dp at d ⊢;rw[Xn,<-d,Xc];congr 1;omega
def uA(sh th:List Ex):Nat->ew
 | 0=>im sh
 | 1=>im th
 | _+2=>im []
def pW(rb ro g n tb:Nat)(sh th:List Ex)(H:Nat->Hd):List Value :=
 [pointer (some ⟨rb,ro,none⟩),slice (some ⟨g,0,none⟩) n n,pointer (some ⟨tb,0,none⟩),slice (H 0).ao sh.length (H 0).cap,slice (H 1).ao th.length (H 1).cap]
structure vP(w:World)(b rb ro g n tb:Nat)(sh th:List Ex)(H:Nat->Hd):Prop where
 bag:bn w b 307 (pW rb ro g n tb sh th H) (uA sh th) H
 shs:∀e∈sh,sF w b H e.hd e.xs/\e.xs.length<=32
 ths:∀e∈th,sF w b H e.hd e.xs/\e.xs.length<=32
theorem vP.Yh(h:vP H l y z5 s z7 y3 M y6 v)(k:ae [] H z6):vP z6 l y z5 s z7 y3 M y6 v :=
 ⟨h.bag.Yh k,fun e a=>⟨(h.shs e a).1.Yh k,(h.shs e a).2⟩,fun e a=>⟨(h.ths e a).1.Yh k,(h.ths e a).2⟩⟩
theorem vP.ctx(h:vP H l y z5 s z7 y3 M y6 v):zA H l y z5 s z7 y3:=⟨_,_,h.bag.Yv,rfl,rfl,rfl⟩
theorem vP.cells{g:Nat}(h:vP H l y z5 g s z7 M y6 v) :
  H.cell? ⟨l,3,none⟩=some (slice (v 0).ao M.length (v 0).cap)/\H.cell? ⟨l,4,none⟩=some (slice (v 1).ao y6.length (v 1).cap):=⟨h.bag.cell 3,h.bag.cell 4⟩
structure Fl(w:World)(rb ro g tb:Nat)(l:List St)(HR K:Nat->Hd)(vs:Xt)(ms:List Bool)(hv hm:Hd):Prop where
 recd:fy w rb ro l HR
 ok:j6 l
 all:iJ w g l l.length K
 ap:lJ w tb vs ms hv hm
 hml:ms.length=vs.length*vs.length
 hvl:vs.length<=10000
theorem Fl.Yh{a:Hd}(h:Fl H l y z5 s ys v yu y9 yt yr a)(k:ae [] H z6):Fl z6 l y z5 s ys v yu y9 yt yr a :=
 ⟨h.recd.Yh k,h.ok,h.all.Yh k,h.ap.Yh k,h.hml,h.hvl⟩
structure nJ(w0 w:World)(b rb ro g n tb:Nat)(sh th:List Ex)(H:Nat->Hd):Prop where
 ply:vP w b rb ro g n tb sh th H
 Yu:ae [] w0 w
 hb:w0.heap.size<=b
 hin:∀x,gF H x->w0.heap.size<=x
theorem nJ.Yh{a:World}(h:nJ H z6 l y z5 s z7 y3 M y6 v)(k:ae [] z6 a):nJ H a l y z5 s z7 y3 M y6 v :=
 ⟨h.ply.Yh k,h.Yu.trans k,h.hb,h.hin⟩
section
attribute [local go_sem] xO
theorem sF.turned(f:sF H l v yr y9)(t:aw l H v z6 yu):sF z6 l yu yr y9:=by
 refine⟨f.view.keptP t.1 (fun x c=>?_),fun x c=>?_⟩
 ·obtain⟨_,a,b⟩:=f.far x c;rintro (e | e)
  ·exact a e
  ·exact b e
 ·obtain⟨d,a,b⟩:=f.far x c;exact⟨Ul d t.1.size,a,t.fresh x d b⟩
theorem bn.reset{b:List Value}{a rows':Nat->ew}(h:bn H l y b a v)(c:Nat)(u:Value)(o:∀i,aB H (v i) (rows' i)) :
  bn (H.setCell ⟨l,c,none⟩ u) l y (b.set c u) rows' v/\aw l H v (H.setCell ⟨l,c,none⟩ u) v:=by
 obtain⟨d,e⟩:=h.set c u;refine⟨⟨d.Yv,fun i=>(o i).Ym (fun k f=>Ut _ _ _ _ ?_),h.apart,h.off⟩,e⟩;rintro rfl;exact h.off i f
theorem tX:sF o b N ⟨none,0⟩ []:=⟨Us rfl,fun x a=>by simp[Hd.Yv]at a⟩
theorem JH(K:Nat->Hd)(A:Xt)(z:List Bool)(hv hm:Hd)(sh c:List Ex)(H:Nat->Hd)(E:Fl y5 D L a f w N K A z hv hm)(P:nJ y5 o d D L a w.length f sh c H)(hn:b<w.length)(hA:nt w b=true)(cl:c.length<=2000000) :
  Calls prog 262 #[pointer (some ⟨d,0,none⟩),int i64 b] o fun e s=>∃(aS:List Ex) (u:Ex),
   e=returned (tuple #[slice u.hd.ao u.xs.length u.hd.cap,int i64 (ii w b A z (c.map Ex.xs)).1])/\u.xs=(ii w b A z (c.map Ex.xs)).2/\nJ y5 s d D L a w.length f sh aS H/\sF s d H u.hd u.xs /\
   (((ii w b A z (c.map Ex.xs)).1==0)=true->aS=c.take (c.length-(aM w b).length))/\aS.length<=c.length:=by
 have Ew:=E.Yh P.Yu;have b0:=E.ok.len;obtain⟨p0,p1,p2⟩:=P.ply.ctx.cells;obtain⟨p3,p4⟩:=P.ply.cells;have bl:mE w w.length b=aM w b:=by unfold mE;rw[Uf ⟨hn,hA⟩]
 have ca:=Ew.all.cell b hn;have oa:=Ew.all.YF b hn;rw[bl]at ca oa;obtain⟨AO,a0⟩:=bm ((K b).ao);rw[a0.o]at ca;have ck:(aM w b).length<=w.length:=nU w b w.length;have bj:∀i (hi:i<(aM w b).length),(aM w b)[i]<w.length:=fun i hi=>DH (Uu hi);have cj:(b:Int)<w.length:=by omega
 have bT:¬(b:Int) ≥ w.length:=by omega
 clear bl p2 p3;by_cases hu:c.length<(aM w b).length
 ·have HF:Xr (ii w b A z (c.map Ex.xs)=(6,[])):=by show _=_;unfold ii;rw[Uy,Uf hu]
  have b1:(c.length:Int)-(aM w b).length<0:=by omega
  go_enter func262,ntmps262;go_wp2;exact Um (v:=tuple #[slice none 0 0,int i64 6]) (by simp[results,results262,go_sem]) rfl
   ⟨c,⟨⟨none,0⟩,[]⟩,by rw[HF.o];rfl,by rw[HF.o],P,tX _ _ _,by rw[HF.o];simp,Ue _⟩
 ·obtain⟨g,hf⟩:∃g,c.length-(aM w b).length=g:=⟨_,rfl⟩
  have cf:(c.length:Int)-(aM w b).length=(g:Int):=by omega
  have cc:¬(g:Int)<0:=by omega
  obtain⟨RR,a3⟩:∃RR,Xr (RR=ke w (aM w b) ((c.map Ex.xs).drop g) ([],[])):=⟨_,rfl⟩
  have HF:Xr (ii w b A z (c.map Ex.xs)=qC w b A z w[b].Yc RR):=by
   show _=_;unfold ii;rw[Uy,Ud hu,wU w b hn,hf,a3.o]
  rw[hf];have bf:g+(aM w b).length=c.length:=by omega
  have a1:Xr _:=bf;clear hf bf;obtain⟨W,hW⟩:∃W,W=o.alloc (.cells #[slice none 0 0,slice none 0 0] 343):=⟨_,rfl⟩
  have kW:=fg hW.symm;have SI:nL W o.heap.size [] [] lB:=by
   rw[hW];refine⟨⟨Ui _ _,?_,fun i j _=>Us rfl,fun i e=>by simp[lB,Hd.Yv]at e⟩,rfl,by simp⟩;intro i
   match i with
   | 0=>exact Uj _ _ _ _
   | 1=>exact Uj _ _ _ _
   | m+2=>exact Uj _ _ _ _
  have HW:Xr _:=hW.symm;clear hW;go_enter func262,ntmps262;go_upto_region 8 with fail
  rw[HW.o];clear HW p0 p1 p4 ca;go_wp2
  go_loopg [9] (aM w b).length (fun gk iv wr=>∃(i:Nat) (S:Pg) (t:List Ex) (Hs:Nat->Hd),i<=(aM w b).length/\gk=(aM w b).length-i/\iv=int i64 i/\Mq S i/\t.map Ex.xs=S.2/\Xr (RR=ke w ((aM w b).drop i) (((c.map Ex.xs).drop g).drop i) S)/\nL wr o.heap.size S.1 t Hs/\(∀x,gF Hs x->o.heap.size<=x)/\(∀e∈t,e.hd.Yv≠some d)/\ae [] o wr)
  ·exact⟨0,([],[]),[],lB,by omega,by omega,rfl,⟨by simp,by simp⟩,rfl,a3.o,SI,fun x l=>by obtain⟨i,hi⟩:=l;simp[lB,Hd.Yv]at hi,by simp,kW⟩
  obtain⟨i,S,t,Hs,hi,hg,rfl,F,ad,hR,hS,ac,ba,Y⟩:=hrel;by_cases R:i<(aM w b).length
  ·obtain⟨G,S2⟩:=S;simp only at ad;subst ad;have U:=P.Yh Y;have ax:g+i<c.length:=by have:=a1.o;omega
   have oT:aB wr (H 1) (im c):=U.ply.bag.YF 1;rcases oT.Ys with ⟨_,h0,_⟩ | ⟨gt,a6,et,-,an,-⟩
   ·have:c.length=0:=h0;omega
   have oH:aB wr (K b) (bu (aM w b)):=oa.Ym (fun x l=>Y.block x (oa.lt l) (by simp));rcases oH.Ys with ⟨_,h0,_⟩ | ⟨gh,bw,eh,-,b5,-⟩
   ·have:(aM w b).length=0:=h0;omega
   have ch:=oH.cell eh i (int i64 (aM w b)[i]) (mx _ i R);have ct:=oT.cell et (g+i) (xK c[g+i]) (tW c (g+i) ax);obtain rfl:AO=some ⟨gh,0,none⟩:=a0.o.symm.trans eh;have bc:c.length<=(H 1).cap:=an;have n:=(P.ply.ths c[g+i] (Uu ax));have af:=bj i R;have B:Xr _:=(hR.o.trans (J7 w (aM w b) ((c.map Ex.xs).drop g) (G,t.map Ex.xs) i R (by simp;omega) af));have e1:((c.map Ex.xs).drop g)[i]'(by simp;omega)=c[g+i].xs:=(by simp);rw[e1]at B;have aT:=PE w[(aM w b)[i]] c[g+i].xs (G,t.map Ex.xs) i F (by omega);have FT:=fun(w3:World) (y:ae [] wr w3)=>PG o.heap.size G t Hs w[(aM w b)[i]] (N (10+2*(aM w b)[i])) (N (11+2*(aM w b)[i])) c[g+i].hd c[g+i].xs w3 (hS.Yh y) (by have:=F.one;simp only at this;omega) (fun e r=>F.two _ (XB r)) ((((E.Yh (U.Yu.trans y)).recd.Yt.syms _ w[(aM w b)[i]] (Ub af)).view)) (E.ok.syms _ af) ⟨(n.1.Yh (Y.trans y)).view,fun x l=>⟨Ul (n.1.far x l).1 (Y.trans y).size,by have:=(n.1.far x l).1;omega,fun hm=>by have:=ac x hm;have:=(n.1.far x l).1;omega⟩⟩ (by omega);have ST:=fun(w3:World) (y:ae [] wr w3)=>bC D L (aM w b)[i] w N w3 (E.Yh (U.Yu.trans y)).recd af;have p4:=U.ply.cells.2;have p0:=U.ply.ctx.cells.1;rw[et]at p4;have M:Xr (∀s,ae [] o s->s.cell? ⟨d,0,none⟩=some (pointer (some ⟨D,L,none⟩))/\s.cell? ⟨gh,i,none⟩=some (int i64 (aM w b)[i])/\s.cell? ⟨d,4,none⟩=some (slice (some ⟨gt,0,none⟩) c.length (H 1).cap)/\s.cell? ⟨gt,g+i,none⟩=some (xK c[g+i])):=by
    intro s k;have P':=P.Yh k;refine⟨P'.ply.ctx.cells.1,(oa.Ym (fun x l=>k.block x (oa.lt l) (by simp))).cell eh i _ (mx _ i R),?_,(P'.ply.bag.YF 1).cell et (g+i) (xK c[g+i]) (tW c (g+i) ax)⟩;rw[<-et];exact P'.ply.cells.2
   have a2:Xr (∀x,(x=o.heap.size∨gF Hs x)->o.heap.size<=x):=by
    rintro x (e | e)
    ·omega
    ·exact ac x e
   have J:Xr _:=FT;have a4:Xr _:=ST;have b3:IntKind.i64.wrap ((g:Int)+i)=(g:Int)+i:=(by rw[Vv];omega);have bx:(0:Int)<=(g:Int)+i:=(by omega);have bz:(g:Int)+i<c.length:=(by omega);have co:((g:Int)+i).toNat=g+i:=(by omega);have ar:=n.1.far;clear FT ST hR e1 oT oH n et eh;unfold xK at ct M;generalize c[g+i]=u at *;generalize (aM w b)[i]=az at *;generalize l8 w[az] u.xs (G,t.map Ex.xs)=Q at *;obtain⟨q,S9⟩:=Q;simp only at B aT J;have br:u.hd.Yv≠some d:=fun e=>(ar d e).2.1 rfl;cases hq:(q==0)
   ·have bs:(q != 0)=true:=(by simp[bne,hq]);have I:Xr (ii w b A z (c.map Ex.xs)=(q,[])):=cM (by rw[HF.o,B.o,Ud (by rw[hq];simp)];simp[qC,hq]);clear B;(go_upto_region 11 with fail);go_region_held3 (fun s=>s.cell? ⟨d,0,none⟩=some (pointer (some ⟨D,L,none⟩))/\s.cell? ⟨gh,i,none⟩=some (int i64 az)/\s.cell? ⟨d,4,none⟩=some (slice (some ⟨gt,0,none⟩) c.length (H 1).cap)/\s.cell? ⟨gt,g+i,none⟩=some (slice u.hd.ao u.xs.length u.hd.cap)) (go_keep) (first | (go_at_call 98;refine(a4.o _ (by exact bM.drew)).mono ?_;rintro e w3 ⟨rfl,y⟩;obtain⟨x0,x1,x2,x3⟩:=M.o w3 (Y.drew.trans y)) | (go_at_call 273;refine(J.o _ (by exact bM.drew.trans y)).mono ?_;rintro e w9 ⟨al,H9,rfl,a5,ag,T9,T⟩;have K9:=(Y.drew.trans y).ofP T9.1 a2.o;obtain⟨z0,z1,z2,z3⟩:=M.o w9 K9))
    all_goals
     clear z0 z1 z2 z3 x0 x1 x2 x3;go_wp2;exact Um (v:=tuple #[slice none 0 0,int i64 q]) (by simp[results,results262,go_sem]) rfl
      ⟨c,⟨⟨none,0⟩,[]⟩,by rw[I.o];rfl,by rw[I.o],P.Yh K9,tX _ _ _,fun hh=>by rw[I.o]at hh;exact absurd (hq.symm.trans hh) (by simp),Ue _⟩
   ·have bs:(q != 0)=false:=(by simp[bne,hq]);have I:Xr (RR=ke w ((aM w b).drop (i+1)) (((c.map Ex.xs).drop g).drop (i+1)) S9):=cM (by rw[B.o,Uf hq]);clear B;(go_upto_region 11 with fail);go_region_held3 (fun s=>s.cell? ⟨d,0,none⟩=some (pointer (some ⟨D,L,none⟩))/\s.cell? ⟨gh,i,none⟩=some (int i64 az)/\s.cell? ⟨d,4,none⟩=some (slice (some ⟨gt,0,none⟩) c.length (H 1).cap)/\s.cell? ⟨gt,g+i,none⟩=some (slice u.hd.ao u.xs.length u.hd.cap)) (go_keep) (first | (go_at_call 98;refine(a4.o _ (by exact bM.drew)).mono ?_;rintro e w3 ⟨rfl,y⟩;obtain⟨x0,x1,x2,x3⟩:=M.o w3 (Y.drew.trans y)) | (go_at_call 273;refine(J.o _ (by exact bM.drew.trans y)).mono ?_;rintro e w9 ⟨al,H9,rfl,a5,ag,T9,T⟩;have K9:=(Y.drew.trans y).ofP T9.1 a2.o;obtain⟨z0,z1,z2,z3⟩:=M.o w9 K9))
    all_goals
     have bo:∀x,gF H9 x->o.heap.size<=x:=fun x l=>by
      rcases T9.2 x l with e | e
      ·exact ac x e
      ·exact Un (Y.drew.trans y).size e
     have bp:∀e∈al,e.hd.Yv≠some d:=fun e r=>by
      rcases T e r with q | q
      ·exact ba e q
      ·rw[q];exact br
     clear z0 z1 z2 z3 x0 x1 x2 x3;go_wp2;go_roundg ((aM w b).length-(i+1))
     ·exact⟨i+1,S9,al,H9,by omega,rfl,by go_num,aT,ag,I.o,a5,bo,bp,K9⟩
     omega
  ·obtain⟨G,S2⟩:=S;simp only at ad;subst ad;have Z:Xr (ii w b A z (c.map Ex.xs)=qC w b A z w[b].Yc (0,(G,t.map Ex.xs))):=by
    show _=_;rw[HF.o,hR.o,FK _ _ _ _ _ R]
   have U:=P.Yh Y;have Er:=E.Yh U.Yu;have bv:=F.one;simp only at bv;have KA:=yi d D L a w.length f b o.heap.size w N A z hv hm G t Hs wr U.ply.ctx Er.ap E.hml E.hvl Er.recd E.ok hS (by omega) (fun e r=>F.two _ (XB r));clear hR;cases hk:yh w b (G,t.map Ex.xs) A z
   ·have I:Xr (ii w b A z (c.map Ex.xs)=(9,[])):=(by show _=_;rw[Z.o];simp[qC,hk]);rw[hk]at KA;clear Z;(go_upto_region 15 with (go_at_call 274;refine KA.mono ?_;rintro e w2 ⟨rfl,k2⟩));go_wp2;exact Um (v:=tuple #[slice none 0 0,int i64 9]) (by simp[results,results262,go_sem]) rfl
     ⟨c,⟨⟨none,0⟩,[]⟩,by rw[I.o];rfl,by rw[I.o],U.Yh k2,tX _ _ _,by rw[I.o];simp,Ue _⟩
   ·have I:Xr (ii w b A z (c.map Ex.xs)=(0,nZ G (t.map Ex.xs) w[b].Yc)):=(by show _=_;rw[Z.o];simp[qC,hk]);rw[hk]at KA;clear Z;(go_upto_region 16 with (go_at_call 274;refine KA.mono ?_;rintro e w2 ⟨rfl,k2⟩));have O:=U.Yh k2;have C:=hS.Yh k2;have p4:=O.ply.cells.2;have y4:=O.ply.bag.free;have oT:aB w2 (H 1) (im c):=O.ply.bag.YF 1;have bg:g<=c.length:=(by have:=a1.o;omega);have b6:o.heap.size > d:=P.ply.bag.lt;have GO:∀V,V=slice (H 1).ao (c.take g).length (H 1).cap->∃X,X=w2.setCell ⟨d,4,none⟩ V/\ae [] y5 X/\nJ y5 X d D L a w.length f sh (c.take g) H/\nL X o.heap.size G t Hs:=by
     rintro V rfl
     obtain⟨b4,D2⟩:=O.ply.bag.reset (rows':=uA sh (c.take g)) 4 (slice (H 1).ao (c.take g).length (H 1).cap) (by
      intro j
      match j with
      | 0=>exact O.ply.bag.YF 0
      | 1=>exact oT.cutE g bg
      | m+2=>exact O.ply.bag.YF (m+2))
     have kX:=O.Yu.setCell (p:=⟨d,4,none⟩) (Uo P.hb) (slice (H 1).ao (c.take g).length (H 1).cap);have kb:=(gy.refl (fun x=>x=d) w2).setCell (p:=⟨d,4,none⟩) (Us rfl) (slice (H 1).ao (c.take g).length (H 1).cap);exact⟨_,rfl,kX,⟨⟨b4,fun e r=>⟨(O.ply.shs e r).1.turned D2,(O.ply.shs e r).2⟩,fun e r=>⟨(O.ply.ths e (Wf r)).1.turned D2,(O.ply.ths e (Wf r)).2⟩⟩,kX,P.hb,P.hin⟩,⟨C.bag.keptP kb (by omega) (fun x l=>by have:=ac x l;omega),C.len,fun e r=>⟨(C.exs e r).view.keptP kb (fun x l e2=>ba e r (e2 ▸ l)),(C.exs e r).adr,fun x l=>⟨Ul ((C.exs e r).far x l).1 kb.size,((C.exs e r).far x l).2⟩⟩⟩⟩
    have GO:Xr _:=GO;rcases oT.Ys with ⟨e0,h0,-⟩ | ⟨gt,a6,et,-,an,-⟩
    focus
     have a7:c.length=0:=h0;have bd:g=0:=(by omega);have ai:Xr (slice none 0 0=slice (H 1).ao (c.take g).length (H 1).cap):=cM (by rw[e0,bd];rfl);rw[e0,a7]at p4;clear e0 h0 a7;(go_upto_region 17 with fail);obtain⟨X,hX,kX,PX,SX⟩:=GO.o _ ai.o;rw[<-hX]
    rotate_left
    focus
     have ai:Xr (slice (some ⟨gt,0,none⟩) g (H 1).cap=slice (H 1).ao (c.take g).length (H 1).cap):=cM (by rw[et];simp;omega);have bc:c.length<=(H 1).cap:=an;have ce:(g:Int)<=(H 1).cap:=(by omega);rw[et]at p4;clear et;(go_upto_region 17 with fail);obtain⟨X,hX,kX,PX,SX⟩:=GO.o _ ai.o;rw[<-hX]
    all_goals
     have p0:=PX.ply.ctx.cells.1;have cb:=PX.ply.bag.lt;have bk:=fun x (l:gF H x)=>PX.ply.bag.inlt l;have b2:=E.ok.syms b hn;have EX:=E.Yh kX;clear hX p4 y4 KA GO;go_wp2_with (first | (go_at_call 98;refine(bC D L b w N _ (by exact EX.recd) hn).mono ?_;rintro e w6 ⟨rfl,k6⟩;unfold eW) | (go_at_call 275;refine(wg o.heap.size G t Hs (N (10+2*b)) w[b].Yc _ (by exact SX.Yh k6) (by omega) (fun e r=>F.two _ (XB r)) (((EX.Yh k6).recd.Yt.syms b w[b] (Ub hn)).view) (by omega)).mono ?_;rintro e w7 ⟨hd,rfl,o7,n7,k7⟩));have cp:=k6.size;exact Um (v:=tuple #[slice hd.ao (nZ G (t.map Ex.xs) w[b].Yc).length hd.cap,int i64 0]) (by simp[results,results262,go_sem]) rfl
      ⟨c.take g,⟨hd,nZ G (t.map Ex.xs) w[b].Yc⟩,by rw[I.o],by rw[I.o],PX.Yh (k6.trans k7),⟨o7.view,fun x l=>⟨o7.lt l,by have:=n7 x l;omega,fun hm=>by have:=n7 x l;have:=bk x hm;omega⟩⟩,fun _=>rfl,by simp;omega⟩
end
def fS(l:List St)(vs:Xt)(ms:List Bool)(sh th:List Xt)(s:jg):(Int×Xt)×List Xt :=
 if(s.Yw==3)=true then(if s.Yd<sh.length then((0,sh.getD s.Yd []),th) else((5,[]),th))
 else if nt l s.Yd=true then(ii l s.Yd vs ms th,th.take (th.length-(aM l s.Yd).length))
 else((0,(l.getD s.Yd zN).Yc),th)
theorem On(s:jg)(l:List St)(i K:Nat->Hd)(p:Xt)(m:List Bool)(hv hm:Hd)(g c:List Ex)(H:Nat->Hd)(E:Fl y5 f b T S l i K p m hv hm)(P:nJ y5 o a f b T l.length S g c H)(hn:(s.Yw==3)=false->s.Yd<l.length)(a1:s.Yd<=2000000)(al:c.length<=2000000) :
  Calls prog 240 #[pointer (some ⟨a,0,none⟩),agg #[int i64 s.Yw,int i64 s.Yd,string s.at_.YB,int i64 s.at_.YC,int i64 s.at_.YD]] o fun e z=>∃(G:List Ex) (u:Ex),
   e=returned (tuple #[slice u.hd.ao u.xs.length u.hd.cap,int i64 (fS l p m (g.map Ex.xs) (c.map Ex.xs) s).1.1])/\u.xs=(fS l p m (g.map Ex.xs) (c.map Ex.xs) s).1.2/\nJ y5 z a f b T l.length S g G H/\sF z a H u.hd u.xs /\
   (((fS l p m (g.map Ex.xs) (c.map Ex.xs) s).1.1==0)=true->G.map Ex.xs=(fS l p m (g.map Ex.xs) (c.map Ex.xs) s).2)/\G.length<=c.length:=by
 obtain⟨W,Z⟩:∃W,W=o.alloc (.cells #[int i64 s.Yw,int i64 s.Yd,string s.at_.YB,int i64 s.at_.YC,int i64 s.at_.YD] 174):=⟨_,rfl⟩
 have kW:=fg Z.symm;have B:=fE Z.symm;have HW:Xr _:=Z.symm;obtain⟨u0,u1,-⟩:=lr B;have t:=P.Yh kW;have EW:=E.Yh t.Yu;obtain⟨p0,p1,p2⟩:=t.ply.ctx.cells;obtain⟨p3,p4⟩:=t.ply.cells;have aT:=t.ply.bag.lt;have a2:=aj B;clear Z;cases hk:(s.Yw==3)
 ·have y:=hn hk;have Y:Xr (fS l p m (g.map Ex.xs) (c.map Ex.xs) s=if nt l s.Yd=true then(ii l s.Yd p m (c.map Ex.xs),(c.map Ex.xs).take (c.length-(aM l s.Yd).length)) else((0,l[s.Yd].Yc),c.map Ex.xs)):=by
   show _=_;unfold fS;rw[hk,Uy,Uy,wU l _ y];rfl
  have V:Xr (∀z,ae [] W z->z.cell? ⟨a,0,none⟩=some (pointer (some ⟨f,b,none⟩))/\z.cell? ⟨o.heap.size,1,none⟩=some (int i64 s.Yd)):=by
   intro z k;refine⟨(t.Yh k).ply.ctx.cells.1,?_⟩;rw[ah (k.get B (by simp))];rfl
  have J:Xr _:=fun(d:World) (D:ae [] W d)=>bC f b s.Yd l i d (EW.Yh D).recd y;have HZ:Xr (∀d,ae [] (W.alloc (.cells #[int i64 0,string ⟨#[]⟩,slice none 0 0,slice none 0 0,string ⟨#[]⟩,int i64 0,int i64 0,int i64 0] 158)).drew d->d.cell? ⟨W.heap.size,0,none⟩=some (int i64 0)/\d.cell? ⟨W.heap.size,1,none⟩=some (string ⟨#[]⟩)/\d.cell? ⟨W.heap.size,2,none⟩=some (slice none 0 0)/\d.cell? ⟨W.heap.size,3,none⟩=some (slice none 0 0)/\d.cell? ⟨W.heap.size,4,none⟩=some (string ⟨#[]⟩)/\d.cell? ⟨W.heap.size,5,none⟩=some (int i64 0)/\d.cell? ⟨W.heap.size,6,none⟩=some (int i64 0)/\d.cell? ⟨W.heap.size,7,none⟩=some (int i64 0)/\∀n,d.frozen? ⟨W.heap.size,n,none⟩=false):=by
   intro d k;have q:=k.get (show(W.alloc (.cells #[int i64 0,string ⟨#[]⟩,slice none 0 0,slice none 0 0,string ⟨#[]⟩,int i64 0,int i64 0,int i64 0] 158)).drew.heap[W.heap.size]?=_ from Ui _ _) (by simp);refine⟨?_,?_,?_,?_,?_,?_,?_,?_,fun n=>am q n⟩ <;> (rw[ah q];rfl)
  have ax:W.heap.size≠a:=by omega
  have az:W.heap.size≠o.heap.size:=by omega
  clear p1 p2 p3 p4;go_enter func240,ntmps240;go_upto_region 1 with fail
  rw[HW.o];go_upto_region 5 with fail
  go_region_held3 (fun z=>z.cell? ⟨a,0,none⟩=some (pointer (some ⟨f,b,none⟩))/\z.cell? ⟨o.heap.size,1,none⟩=some (int i64 s.Yd)) (go_keep) (first | (go_at_call 98;refine(J.o _ (by exact(ae.refl [] W).drew)).mono ?_;rintro e d ⟨rfl,D⟩;obtain⟨x0,x1⟩:=V.o d (bM.drew.trans D);unfold eW) | (go_at_call 98;refine(J.o _ (by exact((ae.refl [] W).alloc _).drew)).mono ?_;rintro e d ⟨rfl,D⟩;obtain⟨x0,x1⟩:=V.o d (((ae.refl [] W).alloc _).drew.trans D);obtain⟨q0,q1,q2,q3,q4,q5,q6,q7,qf⟩:=HZ.o d D;unfold eW))
  focus
   obtain⟨X,C⟩:∃X,X=d.alloc (.cells #[int i64 l[s.Yd].Yw,string l[s.Yd].Yx,slice (i (10+2*s.Yd)).ao l[s.Yd].Yc.length (i (10+2*s.Yd)).cap,slice (i (11+2*s.Yd)).ao l[s.Yd].Yn.length (i (11+2*s.Yd)).cap,string l[s.Yd].YA.YB,int i64 l[s.Yd].YA.YC,int i64 l[s.Yd].YA.YD,int i64 l[s.Yd].til] 158):=⟨_,rfl⟩
   have R:ae [] W X:=(by rw[C];exact(bM.drew.trans D).alloc _);have I:=fE C.symm;rw[<-C];clear C x0 x1 u0 u1 p0;generalize d.heap.size=xa at I ⊢
  rotate_left
  focus
   obtain⟨X,C⟩:∃X,X=(((((((d.setCell ⟨W.heap.size,0,none⟩ (int i64 l[s.Yd].Yw)).setCell ⟨W.heap.size,1,none⟩ (string l[s.Yd].Yx)).setCell ⟨W.heap.size,2,none⟩ (slice (i (10+2*s.Yd)).ao l[s.Yd].Yc.length (i (10+2*s.Yd)).cap)).setCell ⟨W.heap.size,3,none⟩ (slice (i (11+2*s.Yd)).ao l[s.Yd].Yn.length (i (11+2*s.Yd)).cap)).setCell ⟨W.heap.size,4,none⟩ (string l[s.Yd].YA.YB)).setCell ⟨W.heap.size,5,none⟩ (int i64 l[s.Yd].YA.YC)).setCell ⟨W.heap.size,6,none⟩ (int i64 l[s.Yd].YA.YD)).setCell ⟨W.heap.size,7,none⟩ (int i64 l[s.Yd].til):=⟨_,rfl⟩
   have O:=(((ae.refl [] W).alloc _).drew.trans D);have U:=D.get (show(W.alloc (.cells #[int i64 0,string ⟨#[]⟩,slice none 0 0,slice none 0 0,string ⟨#[]⟩,int i64 0,int i64 0,int i64 0] 158)).drew.heap[W.heap.size]?=_ from Ui _ _) (by simp);have R:ae [] W X:=(by rw[C];exact(((((((O.sr1 (Ue _) _).sr1 (Ue _) _).sr1 (Ue _) _).sr1 (Ue _) _).sr1 (Ue _) _).sr1 (Ue _) _).sr1 (Ue _) _).sr1 (Ue _) _);have I:X.heap[W.heap.size]?=some (.cells #[int i64 l[s.Yd].Yw,string l[s.Yd].Yx,slice (i (10+2*s.Yd)).ao l[s.Yd].Yc.length (i (10+2*s.Yd)).cap,slice (i (11+2*s.Yd)).ao l[s.Yd].Yn.length (i (11+2*s.Yd)).cap,string l[s.Yd].YA.YB,int i64 l[s.Yd].YA.YC,int i64 l[s.Yd].YA.YD,int i64 l[s.Yd].til] 158):=by
    rw[C,ab (ab (ab (ab (ab (ab (ab (ab U _ _) _ _) _ _) _ _) _ _) _ _) _ _)];rfl
   rw[<-C];clear C x0 x1 u0 u1 p0 q0 q1 q2 q3 q4 q5 q6 q7 qf O U;generalize W.heap.size=xa at I ⊢
  all_goals
   obtain⟨m0,m1,m2,m3,m4,m5,m6,m7⟩:=zE I;have PX:=t.Yh R;obtain⟨x0,x1⟩:=V.o X R;have r:Xr _:=BK l s.Yd y;cases F:ph l[s.Yd].Yw
   ·have j:Xr (fS l p m (g.map Ex.xs) (c.map Ex.xs) s=((0,l[s.Yd].Yc),c.map Ex.xs)):=(by show _=_;rw[Y.o,r.o,F];rfl);clear Y r;(go_upto_region 8 with (go_at_call 161;refine(dj l[s.Yd].Yw _ _ _ _ _ _ _ _).mono ?_;rintro e w5 ⟨rfl,Q⟩;have ac:=Q.get I (by simp)));obtain⟨-,-,a3,-⟩:=zE ac;have o0:=E.recd.Yt.syms s.Yd l[s.Yd] (Ub y);have kk:=(R.trans Q);have L:=t.Yh kk;clear m0 m1 m2 m3 m4 m5 m6 m7;go_wp2;exact Um (v:=tuple #[slice (i (10+2*s.Yd)).ao l[s.Yd].Yc.length (i (10+2*s.Yd)).cap,int i64 0]) (by simp[results,results240,go_sem]) rfl
     ⟨c,⟨i (10+2*s.Yd),l[s.Yd].Yc⟩,by rw[j.o],by rw[j.o],L,⟨o0.view.Yh L.Yu,fun x hx=>⟨Ul (o0.lt hx) L.Yu.size,by have:=o0.lt hx;have:=P.hb;omega,fun hm=>by have:=P.hin x hm;have:=o0.lt hx;omega⟩⟩,fun _=>by rw[j.o],Ue _⟩
   ·have j:Xr (fS l p m (g.map Ex.xs) (c.map Ex.xs) s=(ii l s.Yd p m (c.map Ex.xs),(c.map Ex.xs).take (c.length-(aM l s.Yd).length))):=(by show _=_;rw[Y.o,r.o,F];rfl);have af:nt l s.Yd=true:=(by rw[r.o,F]);clear Y r;(go_upto_region 7 with (go_at_call 161;refine(dj l[s.Yd].Yw _ _ _ _ _ _ _ _).mono ?_;rintro e w5 ⟨rfl,Q⟩));obtain⟨y0,y1⟩:=V.o w5 (R.trans Q);have L:=PX.Yh Q;clear m0 m1 m2 m3 m4 m5 m6 m7;go_wp2_with fail;refine(JH y5 w5 a f b T S s.Yd l i K p m hv hm g c H E L y af al).mono ?_;rintro e w6 ⟨an,A,rfl,N,P6,F6,ai,ag⟩;have ad:Xr _:=N;clear N;go_wp2;exact Um (v:=tuple #[slice A.hd.ao A.xs.length A.hd.cap,int i64 (ii l s.Yd p m (c.map Ex.xs)).1]) (by simp[results,results240,go_sem]) rfl
     ⟨an,A,by rw[j.o],by rw[j.o];exact ad.o,P6,F6,fun hh=>by rw[j.o]at hh ⊢;rw[ai hh,Xn],ag⟩
 ·have a0:decide ((s.Yd:Int)<0)=false:=by simp
  by_cases w:s.Yd<g.length
  ·have j:Xr (fS l p m (g.map Ex.xs) (c.map Ex.xs) s=((0,g[s.Yd].xs),c.map Ex.xs)):=by
    show _=_;unfold fS;rw[hk,Uf rfl,Uy,Uf w,Uc];simp[w]
   have ar:(s.Yd:Int)<g.length:=(by omega);have oS:aB W (H 0) (im g):=t.ply.bag.YF 0;rcases oS.Ys with ⟨_,h0,_⟩ | ⟨gs,ap,es,-,aS,-⟩
   ·have:g.length=0:=h0;omega
   have cs:=oS.cell es s.Yd (xK g[s.Yd]) (tW g s.Yd w);have M:=(t.ply.shs g[s.Yd] (Uu w)).1;rw[es]at p3;unfold xK at cs;generalize g[s.Yd]=u at *;clear p0 p1 p2 p4 oS es;go_enter func240,ntmps240;(go_upto_region 1 with fail);rw[HW.o];(go_upto_region 2 with fail);go_quiet (fail);(go_upto_region 4 with fail);go_quiet (fail);go_wp2;exact Um (v:=tuple #[slice u.hd.ao u.xs.length u.hd.cap,int i64 0]) (by simp[results,results240,go_sem]) rfl
    ⟨c,u,by rw[j.o],by rw[j.o],t.Yh ((bM.drewN _).drewN _),M.Yh ((bM.drewN _).drewN _),fun _=>by rw[j.o],Ue _⟩
  ·have j:Xr (fS l p m (g.map Ex.xs) (c.map Ex.xs) s=((5,[]),c.map Ex.xs)):=by
    show _=_;unfold fS;rw[hk,Uf rfl,Uy,Ud w]
   clear p0 p1 p2 p4;go_enter func240,ntmps240;(go_upto_region 1 with fail);rw[HW.o];(go_upto_region 2 with fail);go_quiet (fail);go_wp2;exact Um (v:=tuple #[slice none 0 0,int i64 5]) (by simp[results,results240,go_sem]) rfl
    ⟨c,⟨⟨none,0⟩,[]⟩,by rw[j.o];rfl,by rw[j.o],t.Yh (bM.drewN _),tX _ _ _,by rw[j.o];simp,Ue _⟩
end Go.Proofs.YtnbhnocdhbcbcaaGreat
