import Derived.Test.YtpdholcaobgofaaGreatP09
namespace Go.Proofs.YtpdholcaobgofaaGreat
open Go.RowKit Tryz
open Value IntKind Ending
set_option maxHeartbeats 0
variable{H z6:World}{l y z5 s z7 zt:Nat}{y6:Xs}{y9 ya:Xu}{yg:List Bool}{z8:Nat->Xu}{v yr:Nat->Hd}{yf:List St}{yd:Hd}{M y3:List Ex}(y2 o:World)(d D L a f b:Nat)(w:List St)(n:Xs)(z4:List Bool)(y7:Hd)(zf:Xs)(N:Nat->Hd)(y8 m:Hd)(x:Xu)(i:Xs)(T:Nat)(I:World)(S:Nat)(y5:List Xs)
theorem GV(c:aD I m (bK x))(u:x.length<=1073741824) :
  Calls prog 279 #[slice m.ao x.length m.cap,int i64 T] I fun e v=>e=returned (bool (lp x T))/\v=I:=by
 obtain⟨w,r⟩:=m;rcases c.Zbu with ⟨t,q,_⟩ | ⟨g,s,p,_⟩
 ·have j:x.length=0:=q;have n:x=[]:=XY j;subst n;clear c q j u t;go_enter func279,ntmps279;go_wp2;refine Zv 1 ?_;rw[ZT];go_wp2;go_ret;exact⟨rfl,rfl⟩
 ·simp only at p;subst p;go_enter func279,ntmps279;go_wp2
  go_loopg [5] x.length (fun g i wr=>∃k:Nat,k<=x.length/\g=x.length-k/\i=int i64 k/\Xq (lp x T=lp (x.drop k) T)/\wr=I)
  ·exact⟨0,by omega,by omega,rfl,rfl,rfl⟩
  obtain⟨k,A,z,rfl,d,rfl⟩:=hrel;by_cases a:k<x.length
  ·have y:=c.cell rfl k (int i64 x[k]) (mh x k a);cases b:(x[k]==T)
   ·have f:Xq (lp x T=lp (x.drop (k+1)) T):=C1 x T k a d.o b;have l:=(rB x[k] T).trans b;clear d c b;go_wp2;go_roundg (x.length-(k+1))
    ·exact⟨k+1,by omega,rfl,by go_num,f,rfl⟩
    omega
   ·have f:Xq (lp x T=true):=GH x T k a d.o b;have l:=(rB x[k] T).trans b;clear d c b;go_wp2;go_ret;exact⟨aH f.o.symm,rfl⟩
  ·have f:Xq (lp x T=false):=C2 x T k a d.o;clear d c;go_wp2;go_ret;exact⟨aH f.o.symm,rfl⟩
structure Cd(w:World)(b rb ro g n tb:Nat):Prop where
 Zbx:∃arr t,w.heap[b]?=some (.cells arr t)/\arr[0]?=some (pointer (some ⟨rb,ro,none⟩))/\arr[1]?=some (slice (some ⟨g,0,none⟩) n n)/\arr[2]?=some (pointer (some ⟨tb,0,none⟩))
theorem Cd.Zbj(h:Cd H l y z5 s z7 zt)(k:aa [] H z6):Cd z6 l y z5 s z7 zt:=by
 obtain⟨a,t,b,c⟩:=h.Zbx;exact⟨a,t,k.get b (by simp),c⟩
theorem Cd.cells{g:Nat}(h:Cd H l y z5 g s z7):H.cell? ⟨l,0,none⟩=some (pointer (some ⟨y,z5,none⟩))/\H.cell? ⟨l,1,none⟩=some (slice (some ⟨g,0,none⟩) s s)/\H.cell? ⟨l,2,none⟩=some (pointer (some ⟨z7,0,none⟩)):=by
 obtain⟨b,t,a,c,d,e⟩:=h.Zbx;exact⟨(ab a 0).trans c,(ab a 1).trans d,(ab a 2).trans e⟩
def tn(vs:Xs):Xs->Xu->Xu
 | [],acc=>acc
 | x :: r,acc=>match bZ vs x with
  | none=>tn vs r acc
  | some p=>if lp acc p=true then tn vs r acc else tn vs r (acc++[p])
def mz(vs xs:Xs):Xu:=tn vs xs []
theorem V5(a:S<zf.length):tn n (zf.drop S) x=match bZ n zf[S] with
  | none=>tn n (zf.drop (S+1)) x
  | some p=>if lp x p=true then tn n (zf.drop (S+1)) x else tn n (zf.drop (S+1)) (x++[p]):=by
 rw[X0 a];rfl
theorem SE(a:¬S<zf.length):tn n (zf.drop S) x=x:=by
 rw[YQ (by omega)];rfl
theorem Ih(c:Xs)(a:Xu)(h:∀p∈a,p<i.length):(∀p∈tn i c a,p<i.length)/\(tn i c a).length<=a.length+c.length:=by
 induction c generalizing a with
 | nil=>exact⟨h,by simp[tn]⟩
 | cons x r d =>
  rw[tn];split
  ·have:=d a h;exact⟨this.1,by simp;omega⟩
  ·next p f =>
   split
   ·have:=d a h;exact⟨this.1,by simp;omega⟩
   ·have:=d (a++[p]) (by intro q b;simp at b;rcases b with b | rfl;exact h q b;exact MQ f);exact⟨this.1,by have e:=this.2;simp at e ⊢;omega⟩
theorem Qf{a:Xs}(h:l∈mz y6 a):l<y6.length:=(Ih y6 a [] (by simp)).1 l h
theorem LK:(mz zf i).length<=i.length:=by have:=(Ih zf i [] (by simp)).2;unfold mz;simpa using this
set_option maxRecDepth 100000
theorem Ay(hp:Cd I d D L a f b)(h:mA I b n z4 y7 y8)(hl:n.length<=1073741824)(Y:dB I m i)(Z:i.length<=1000000) :
  Calls prog 278 #[pointer (some ⟨d,0,none⟩),slice m.ao i.length m.cap] I fun e w'=>∃g:Hd,e=returned (slice g.ao (mz n i).length g.cap)/\aD w' g (bK (mz n i))/\(∀x,g.Zbx=some x->I.heap.size<=x)/\aa [] I w':=by
 obtain⟨i0,hi,ac,ad,af⟩:=XV C3;obtain⟨ao,ag⟩:=m;rcases Y with rfl | ⟨gv,P,ai,t,e1,e2,U,e4,e5⟩
 ·clear Z;go_enter func278,ntmps278;go_wp2;refine Zv 1 ?_;rw[ZT];go_wp2;go_ret;exact⟨⟨none,0⟩,rfl,XE _ _ _ _,by intro x v;simp[Hd.Zbx]at v,aa.refl _ _⟩
 simp only at e1 e4 e5;subst e1;obtain⟨R,HR⟩:∃R,Xq (R=mz n i):=⟨_,rfl⟩
 rw[<-HR.o];go_enter func278,ntmps278;go_wp2
 go_loopg [5,6] i.length (fun gk sv aq wr=>∃(k:Nat) (g:Hd) (c:Xu),k<=i.length/\gk=i.length-k/\aq=int i64 k/\sv=slice g.ao c.length g.cap/\c.length<=k/\Xq (R=tn n (i.drop k) c)/\aD wr g (bK c)/\(∀x,g.Zbx=some x->I.heap.size<=x)/\aa [] I wr)
 ·exact⟨0,⟨none,0⟩,[],by omega,by omega,rfl,rfl,by simp,HR.o,XE _ _ _ _,by intro x v;simp[Hd.Zbx]at v,aa.refl _ _⟩
 obtain⟨k,g,c,hk,hg,rfl,rfl,al,w,M,K,F⟩:=hrel;have hr:=h.Zbj F;obtain⟨p0,p1,p2⟩:=(hp.Zbj F).cells;by_cases C:k<i.length
 ·have c2:wr.cell? ⟨gv,P+k,none⟩=some (string i[k]):=(ab (F.get e2 (by simp)) (P+k)).trans (U k i[k] (Xv C));have ap:(k:Int)<i.length:=by omega
  have r:Xq _:=w.o.trans (V5 n i c k C);have q:Xq _:=(fun w1 (k1:aa [] wr w1)=>wI b n z4 y7 y8 i[k] w1 (hr.Zbj k1) hl);clear w U p0 p1;generalize i[k]=y at *;rcases hpo:bZ n y with _ | p
  ·have A:Xq (R=tn n (i.drop (k+1)) c):=(by show _=_;rw[r.o,hpo]);rw[hpo]at q;simp only[iu]at q;clear r;(go_upto_region 5 with fail);go_quiet ((go_at_call 259;exact XW (q.o _ (bH.drewN _))));go_wp2;go_roundg (i.length-(k+1))
   ·exact⟨k+1,g,c,by omega,rfl,by go_num,rfl,by omega,A.o,M.Zbo (fun x v=>((aa.refl [] wr).drewN _).block x (M.lt v) (by simp)),K,F.drewN _⟩
   omega
  ·rw[hpo]at q;simp only[iu]at q;have an:(p:Int) ≥ 0:=by omega
   (go_upto_region 5 with fail);go_quiet ((go_at_call 259;exact XW (q.o _ (bH.drewN _))));obtain⟨Q,z⟩:∃Q,Q=wr.drewN nq:=⟨_,rfl⟩
   rw[<-z];have s:aD Q g (bK c):=by rw[z];exact M.Zbo (fun x v=>((aa.refl [] wr).drewN _).block x (M.lt v) (by simp))
   have J:aa [] I Q:=(by rw[z];exact F.drewN _);clear z;cases S:lp c p
   ·have A:Xq (R=tn n (i.drop (k+1)) (c++[p])):=(by show _=_;rw[r.o,hpo];simp[S]);have N:=s.Zbo (fun x v=>((aa.refl [] Q).alloc (.cells #[int i64 p] 3)).block x (s.lt v) (by simp));clear r;(go_upto_region 7 with (go_at_call 279;refine(GV g c p _ (by exact s) (by omega)).mono ?_;rintro e w7 ⟨rfl,E⟩;rw[E,S]));go_wp2_with (at_builtin;refine aR _ rfl (.tmp 31) (.tmp 33) 25 rfl i0 (int i64 0) 8 g (bK c) underlying25 hi ac ad af rfl XR rfl (by exact N) ⟨_,0,none⟩ 1 1 [int i64 p] rfl rfl ?d1 ?d2 XR ?d3 ?d4 ?_)
    case d1=>intro j u T;match j,T with | 0,T=>simp at T;subst T;simp[Addr.add]
    case d2=>intro u hu;simp at hu;subst hu;rfl
    case d3=>simp only[bK];unfold maxLen;omega
    case d4=>simp only[bK];omega
    intro V G w5 O B l;rw[oQ c p]at O;have H:=J.alloc (.cells #[int i64 p] 3);have X:=H.grown B K;have am:I.heap.size<=V:=by
     rcases l with e | e
     ·exact K V e
     ·have:=H.size;simp at e this;omega
    have W:Xq ((bK c).n+1=(c++[p]).length):=cm (by simp[bK]);rw[W.o];clear B l N;go_wp2;go_roundg (i.length-(k+1))
    ·exact⟨k+1,⟨some ⟨V,0,none⟩,G⟩,c++[p],by omega,rfl,by go_num,rfl,by simp;omega,A.o,O,by intro x v;simp[Hd.Zbx]at v;omega,X⟩
    omega
   ·have A:Xq (R=tn n (i.drop (k+1)) c):=(by show _=_;rw[r.o,hpo];simp[S]);clear r;go_wp2_with (go_at_call 279;refine(GV g c p _ (by exact s) (by omega)).mono ?_;rintro e w7 ⟨rfl,E⟩;rw[E,S]);go_roundg (i.length-(k+1))
    ·exact⟨k+1,g,c,by omega,rfl,by go_num,rfl,by omega,A.o,s,K,J⟩
    omega
 ·have A:Xq (c=R):=(w.o.trans (SE n i c k C)).symm;clear w U;go_wp2;go_ret;exact⟨g,by rw[<-A.o];rfl,by rw[<-A.o];exact M,K,F⟩
def Ch(side:Nat)(ms:List Bool)(ones others:Xu):Bool:=ones.all (fun i=>others.all (fun j=>fE side ms i j))
theorem UL{side:Nat}{ms:List Bool}(a:T<y9.length)(b:S<ya.length)(h:fE side ms y9[T] ya[S]=false):Ch side ms y9 ya=false:=by
 cases e:Ch side ms y9 ya
 ·rfl
 ·unfold Ch at e;rw[YP]at e;have:=e _ (XM a);rw[YP]at this;rw[this _ (XM b)]at h;cases h
theorem QJ(h:∀i j (a:i<y9.length) (b:j<ya.length),fE l yg y9[i] ya[j]=true):Ch l yg y9 ya=true:=by
 unfold Ch;rw[YP];intro x c;rw[YP];intro y d;obtain⟨i,a,rfl⟩:=Yr c;obtain⟨j,b,rfl⟩:=Yr d;exact h i j a b
set_option maxRecDepth 512
theorem DY(B:Hd)(g c:Xu)(w:World)(hp:Cd w d D L a f b)(h:mA w b n z4 y7 y8)(R:z4.length=n.length*n.length)(S:n.length<=10000)(V:aD w m (bK g))(W:aD w B (bK c))(aT:g.length<=1000000)(a0:c.length<=1000000)(C:∀x∈g,x<n.length)(E:∀x∈c,x<n.length) :
  Calls prog 276 #[pointer (some ⟨d,0,none⟩),slice m.ao g.length m.cap,slice B.ao c.length B.cap] w fun e w'=>e=returned (bool (Ch n.length z4 g c))/\∃z,w'=w.drewN z:=by
 go_enter func276,ntmps276;go_wp2
 go_loopg [7] g.length (fun gk i wr=>∃(k z:Nat),k<=g.length/\gk=g.length-k/\i=int i64 k/\Xq (∀i j (r:i<g.length) (F:j<c.length),i<k->fE n.length z4 g[i] c[j]=true)/\Xq (wr=w.drewN z))
 ·exact⟨0,0,by omega,by omega,rfl,fun i j r F h=>by omega,rfl⟩
 obtain⟨k,z,hk,hg,rfl,l,H⟩:=hrel;by_cases y:k<g.length
 ·go_wp2_with fail
  go_loopg [8] c.length (fun P i2 Z=>∃(j U:Nat),j<=c.length/\P=c.length-j/\i2=int i64 j/\Xq (∀i (r:i<c.length),i<j->fE n.length z4 g[k] c[i]=true)/\Xq (Z=w.drewN U))
  ·exact⟨0,z,by omega,by omega,rfl,fun i r h=>by omega,H⟩
  obtain⟨j,U,F,ar,rfl,p,q⟩:=hrel;by_cases v:j<c.length
  ·have K:aa [] w wr:=(by rw[q.o];exact bH.drewN _);have hA:=h.Zbj K;obtain⟨p0,p1,p2⟩:=(hp.Zbj K).cells;rcases V.Zbu with ⟨_,Q,_⟩ | ⟨ga,ca,J,ai,M,al,-⟩
   ·have:g.length=0:=Q;omega
   rcases W.Zbu with ⟨_,Q,_⟩ | ⟨gb,cb,N,am,O,an,-⟩
   ·have:c.length=0:=Q;omega
   have d1:wr.cell? ⟨ga,k,none⟩=some (int i64 g[k]):=(V.Zbo (fun x T=>K.block x (V.lt T) (by simp))).cell J k (int i64 g[k]) (mh g k y);have d2:wr.cell? ⟨gb,j,none⟩=some (int i64 c[j]):=(W.Zbo (fun x T=>K.block x (W.lt T) (by simp))).cell N j (int i64 c[j]) (mh c j v);have ap:g.length<=m.cap:=M;have aq:c.length<=B.cap:=O;have av:(k:Int)<g.length:=(by omega);have ax:(j:Int)<c.length:=(by omega);have x1:=C _ (XM y);have x2:=E _ (XM v);have t:Xq _:=UL (side:=n.length) (ms:=z4) k j y v;have u:Xq (fE n.length z4 g[k] c[j]=true->∀i (r:i<c.length),i<j+1->fE n.length z4 g[k] c[i]=true):=by
    intro hh i r az;by_cases e:i=j
    ·subst e;exact hh
    ·exact p.o i r (by omega)
   have AP:=fun nq=>tR b n z4 y7 y8 g[k] c[j] (wr.drewN nq) (hA.Zbj (bH.drewN nq)) R S x1 x2;obtain⟨af,ac⟩:=m;obtain⟨ag,ad⟩:=B;simp only at J N;subst J;subst N;clear p hA p0 p1;generalize g[k]=X at *;generalize c[j]=Y at *;have s:Xq _:=AP;clear AP;cases I:fE n.length z4 X Y
   ·have A:Xq _:=t.o I;rw[I]at s;clear t u l;(go_upto_region 7 with fail);go_quiet ((go_at_call 214;exact XW (s.o _)));go_wp2;go_ret;exact⟨aH A.o.symm,_,by rw[q.o];exact Zaq _ _ _⟩
   ·have A:Xq _:=u.o I;rw[I]at s;clear t u;(go_upto_region 7 with fail);go_quiet ((go_at_call 214;exact XW (s.o _)));go_wp2;go_roundg (c.length-(j+1))
    ·exact⟨j+1,_,by omega,rfl,by go_num,A.o,by show _=_;rw[q.o];exact Zaq _ _ _⟩
    omega
  ·have HN:Xq (∀i j (r:i<g.length) (F:j<c.length),i<k+1->fE n.length z4 g[i] c[j]=true):=by
    intro i j' r G aS;by_cases e:i=k
    ·subst e;exact p.o j' G (by omega)
    ·exact l.o i j' r G (by omega)
   clear p l;go_wp2;go_roundg (g.length-(k+1))
   ·exact⟨k+1,U,by omega,rfl,by go_num,HN,q⟩
   omega
 ·have A:Xq (Ch n.length z4 g c=true):=QJ (fun i j r F=>l.o i j r F (by omega));clear l;go_wp2;go_ret;exact⟨aH A.o.symm,z,H.o⟩
structure jR(w:World)(g N:Nat)(F:Nat->Xu)(K:Nat->Hd):Prop where
 arr:∃arr,w.heap[g]?=some (.cells arr 25)/\arr.size=N/\∀n,n<N->arr[n]?=some (slice (K n).ao (F n).length (K n).cap)
 ZbH:∀n,n<N->aD w (K n) (bK (F n))
 off:∀n,n<N->(K n).Zbx≠some g
theorem jR.Zbj(h:jR H l y z8 v)(q:aa [] H z6):jR z6 l y z8 v:=by
 obtain⟨a,c,d,e⟩:=h.arr;exact⟨⟨a,q.get c (by simp),d,e⟩,fun n b=>(h.ZbH n b).Zbo (fun x f=>q.block x ((h.ZbH n b).lt f) (by simp)),h.off⟩
theorem jR.cell(h:jR H l y z8 v)(n:Nat)(d:n<y):H.cell? ⟨l,n,none⟩=some (slice (v n).ao (z8 n).length (v n).cap):=by
 obtain⟨a,b,e,c⟩:=h.arr;rw[ab b];exact c n d
theorem jR.free(h:jR H l y z8 v)(n:Nat):H.frozen? ⟨l,n,none⟩=false:=by
 obtain⟨a,b,c,d⟩:=h.arr;exact zcW b n
theorem jR.lt(h:jR H l y z8 v):l<H.heap.size:=by
 obtain⟨a,b,c,d⟩:=h.arr;exact ah b
def LB(F:Nat->Xu)(k:Nat)(v:Xu):Nat->Xu:=fun n=>if n=k then v else F n
theorem jR.store{k:Nat}(h:jR H l y z8 v)(e:Xu)(c:Hd)(o:aD H c (bK e))(g:c.Zbx≠some l) :
  jR (H.setCell ⟨l,k,none⟩ (slice c.ao e.length c.cap)) l y (LB z8 k e) (gj v k c):=by
 obtain⟨i,j,f,m⟩:=h.arr;refine⟨⟨_,ae j _ _,by simpa using f,?_⟩,?_,?_⟩
 ·intro n b;by_cases a:n=k
  ·subst a;rw[dS];simp[f,b,LB]
  ·rw[cJ _ _ _ _ a];rw[Zav (by omega)];simp only[LB,if_neg a];exact m n b
 ·intro n b;by_cases a:n=k
  ·subst a;rw[dS];simp only[LB,if_pos];exact o.Zbo (fun x d=>XN _ _ _ _ (by rintro rfl;exact g d))
  ·rw[cJ _ _ _ _ a];simp only[LB,if_neg a];exact(h.ZbH n b).Zbo (fun x d=>XN _ _ _ _ (by rintro rfl;exact h.off n b d))
 ·intro n b;by_cases a:n=k
  ·subst a;rw[dS];exact g
  ·rw[cJ _ _ _ _ a];exact h.off n b
def lz(vs:Xs)(bs:List Xs)(k n:Nat):Xu:=if n<k then mz vs (bs.getD n []) else []
theorem jR.congr{c:Nat->Xu}(h:jR H l y z8 v)(e:∀n,n<y->z8 n=c n):jR H l y c v:=by
 obtain⟨b,d,f,g⟩:=h.arr;exact⟨⟨b,d,f,fun n a=>by rw[<-e n a];exact g n a⟩,fun n a=>by rw[<-e n a];exact h.ZbH n a,h.off⟩
set_option maxRecDepth 100000
theorem LJ(c:List Ex)(w:World)(hp:Cd w d D L a f b)(h:mA w b n z4 y7 y8)(af:n.length<=10000)(C:aD w m (iK c))(Z:c.length<=10000)(B:∀e∈c,dB w e.hd e.xs/\e.xs.length<=10000) :
  Calls prog 275 #[pointer (some ⟨d,0,none⟩),slice m.ao c.length m.cap] w fun e S=>∃(N:Nat) (K:Nat->Hd),e=returned (slice (some ⟨N,0,none⟩) c.length c.length)/\jR S N c.length (lz n (c.map Ex.xs) c.length) K/\aa [] w S:=by
 obtain⟨i0,hi,F,G,H⟩:=XV Xb;have R:=fun w=>bY (P:=prog) w 181 25 i0 _ underlying181 hi F c.length 1 G (by rw[H];omega) (by omega);obtain⟨r,j⟩:∃r,r=madeCells (slice none 0 0).cells (c.length*1):=⟨_,rfl⟩
 rw[<-j]at R;have I:Xq (jR (w.alloc (.cells r 25)) w.heap.size c.length (lz n (c.map Ex.xs) 0) pg):=by
  refine⟨⟨r,XD _ _,by rw[j,YJ];omega,?_⟩,?_,fun f _ e=>by simp[pg,Hd.Zbx]at e⟩
  ·intro f O;have e:lz n (c.map Ex.xs) 0 f=[]:=(by unfold lz;rw[Xz (by omega)]);rw[e,j];exact EK _ _ _ (by omega)
  ·intro f O;have e:lz n (c.map Ex.xs) 0 f=[]:=(by unfold lz;rw[Xz (by omega)]);rw[e];exact XE _ _ _ _
 clear j;go_enter func275,ntmps275;go_wp2
 go_loopg [6] c.length (fun gk i wr=>∃(k:Nat) (K:Nat->Hd),k<=c.length/\gk=c.length-k/\i=int i64 k/\jR wr w.heap.size c.length (lz n (c.map Ex.xs) k) K/\aa [] w wr)
 ·exact⟨0,pg,by omega,by omega,rfl,I.o,(aa.refl _ _).alloc _⟩
 obtain⟨k,K,hk,hg,rfl,z,p⟩:=hrel;clear I R;by_cases g:k<c.length
 ·rcases C.Zbu with ⟨_,Y,_⟩ | ⟨gb,J,u,-,y,-⟩
  ·have:c.length=0:=Y;omega
  have q:aD wr m (iK c):=C.Zbo (fun x hx=>p.block x (C.lt hx) (by simp));have W:=q.cell u k (Ae c[k]) (wi c k g);have ac:c.length<=m.cap:=y;obtain⟨E,ag⟩:=B c[k] (XM g);have T:=Ay d D L a f b n z4 y7 y8 c[k].hd c[k].xs wr (hp.Zbj p) (h.Zbj p) (by omega) (E.Zbj p) (by omega);have t:Xq (∀f,f<c.length->LB (lz n (c.map Ex.xs) k) k (mz n c[k].xs) f=lz n (c.map Ex.xs) (k+1) f):=by
   intro f O;unfold LB lz;by_cases e:f=k
   ·subst e;simp[g]
   ·rw[Xz e];by_cases M:f<k
    ·rw[XA M,XA (by omega)]
    ·rw[Xz M,Xz (by omega)]
  unfold Ae at W;obtain⟨ao,V⟩:=m;simp only at u;subst u;have ad:=z.lt;clear q;generalize c[k]=X at *;go_wp2_with fail;refine T.mono ?_;rintro e w2 ⟨hd,rfl,o2,n2,Q⟩;have l:=z.Zbj Q;have c2:=l.cell k g;have f2:=l.free;have U:Xq _:=((l.store (k:=k) (mz n X.xs) hd o2 (fun e=>by have:=n2 _ e;omega)).congr t.o);have A:=(p.trans Q);have s:Xq (∀v,aa [] w (w2.setCell ⟨w.heap.size,k,none⟩ v)):=fun v=>A.setCell (XK (Xy _)) v;go_wp2;go_roundg (c.length-(k+1))
  ·exact⟨k+1,_,by omega,rfl,by go_num,U.o,s.o _⟩
  omega
 ·have e:k=c.length:=by omega
  subst e;go_wp2;go_ret;exact⟨_,K,rfl,z,p⟩
def uI(l:List St)(a:Nat)(S:Xs×List Xs)(vs:Xs)(ms:List Bool)(i j:Nat):Bool :=
 !(fE S.1.length (ii l a S.1) i j)||Ch vs.length ms (mz vs (S.2.getD i [])) (mz vs (S.2.getD j []))
def GR(l:List St)(a:Nat)(S:Xs×List Xs)(vs:Xs)(ms:List Bool):Bool :=
 decide (∀i,i<S.1.length->∀j,j<S.1.length->i<j->uI l a S vs ms i j=true)
theorem Ax(l:List St)(HR:Nat->Hd)(g:Xs)(r:List Bool)(hv hm:Hd)(n:Xs)(c:List Ex)(H:Nat->Hd)(w:World)(hp:Cd w d D L a f b)(h:mA w b g r hv hm)(aq:r.length=g.length*g.length)(af:g.length<=10000)(hr:dQ w D L l HR)(ok:iV l)(O:oX w S n c H)(N:n.length<=10000)(ag:∀e∈c,e.xs.length<=10000) :
  Calls prog 272 #[pointer (some ⟨d,0,none⟩),int i64 T,pointer (some ⟨S,0,none⟩)] w fun e I=>e=returned (bool (GR l T (n,c.map Ex.xs) g r))/\aa [] w I:=by
 obtain⟨p0,p1,p2⟩:=hp.cells;obtain⟨s0,s1⟩:=O.cells;have E:Xq (c.length=n.length):=O.len;have an:c.length<=10000:=by rw[E.o];exact N
 obtain⟨R,Z⟩:∃R,Xq (R=GR l T (n,c.map Ex.xs) g r):=⟨_,rfl⟩
 rw[<-Z.o];have V:∀t,aa [] w t->aD t (H 0) (aE n):=fun t G=>(O.Zbj G).bag.ZbH 0;have W:∀t,aa [] w t->aD t (H 1) (iK c):=fun t G=>(O.Zbj G).bag.ZbH 1;have P:Xq _:=fun t (G:aa [] w t)=>JE D L T l HR (H 0) n t (hr.Zbj G) ok (V t G) N;have HC:Xq (∀I,aa [] w.drew I->I.cell? ⟨d,0,none⟩=some (pointer (some ⟨D,L,none⟩))/\I.cell? ⟨S,0,none⟩=some (slice (H 0).ao n.length (H 0).cap)):=by
  intro I k;exact⟨(hp.Zbj ((aa.refl [] w).drew.trans k)).cells.1,(O.Zbj ((aa.refl [] w).drew.trans k)).cells.1⟩
 go_enter func272,ntmps272;go_upto_region 1 with fail
 go_region_held3 (fun I=>I.cell? ⟨d,0,none⟩=some (pointer (some ⟨D,L,none⟩))/\I.cell? ⟨S,0,none⟩=some (slice (H 0).ao n.length (H 0).cap)) (go_keep) (first | (go_at_call 208;refine(P.o _ (by exact bH.drew)).mono ?_;rintro e t ⟨ax,av,ap,rfl,A2,-,-,G⟩;obtain⟨x0,x1⟩:=HC.o t G));have K1:=(aa.refl [] w).drew.trans G;have ad:=O.Zbj K1;obtain⟨y0,y1⟩:=ad.cells;have WI:=LJ d D L a f b g r hv hm (H 1) c t (hp.Zbj K1) (h.Zbj K1) af (W t K1) an (fun e he=>⟨(ad.exs e he).view,ag e he⟩);have ac:=lT l T n l.length;go_wp2_with fail;refine WI.mono ?_;rintro e w2 ⟨g2,K,rfl,G2,k2⟩;have ai:=A2.Zbj k2;have K2:=K1.trans k2;have ar:=hp.Zbj K2;have M:=h.Zbj K2;have HT:Xq (R=true ↔ ∀i,i<c.length->∀j,j<c.length->i<j->uI l T (n,c.map Ex.xs) g r i j=true):=by
  show _ ↔ _;rw[Z.o,E.o];unfold GR;rw[decide_eq_true_iff]
 have Q:Xq (∀f,∀x∈lz g (c.map Ex.xs) c.length f,x<g.length):=by
  intro f x hx;unfold lz at hx;split at hx
  ·exact Qf hx
  ·cases hx
 have U:Xq (∀f,f<c.length->(lz g (c.map Ex.xs) c.length f).length<=10000):=by
  intro f hn;unfold lz;rw[XA hn];refine XF (LK _ _) ?_;rw[Xw];simp[hn];exact ag _ (XM hn)
 have al:Xq (∀i j,i<c.length->j<c.length->uI l T (n,c.map Ex.xs) g r i j=(!(fE n.length (ii l T n) i j)||Ch g.length r (lz g (c.map Ex.xs) c.length i) (lz g (c.map Ex.xs) c.length j))):=by
  intro i j hi hj;unfold uI lz;rw[XA hi,XA hj]
 clear WI V W P HC y0 y1 p0 p1 p2 s0 s1 x0 x1;go_wp2
 go_loopg [9] c.length (fun gk iv wr=>∃(i:Nat),i<=c.length/\gk=c.length-i/\iv=int i64 i/\Xq (∀z,z<i->∀m,m<c.length->z<m->uI l T (n,c.map Ex.xs) g r z m=true)/\aa [] w2 wr)
 ·exact⟨0,by omega,by omega,rfl,fun z aT=>by omega,aa.refl _ _⟩
 obtain⟨i,hi,hg,rfl,q,hK⟩:=hrel;by_cases y:i<c.length
 ·go_wp2_with fail
  go_loopg [10] (c.length-(i+1)) (fun am jv az=>∃(j:Nat),i+1<=j/\j<=c.length/\am=c.length-j/\jv=int i64 j/\Xq (∀m,i<m->m<j->uI l T (n,c.map Ex.xs) g r i m=true)/\aa [] w2 az)
  ·exact⟨i+1,by omega,by omega,by omega,by go_num,fun m h1 M=>by omega,hK⟩
  obtain⟨j,a1,hj,aS,rfl,u,p⟩:=hrel;clear hK;by_cases v:j<c.length
  ·have hA:=ai.Zbj p;have hG:=G2.Zbj p;have d1:=hG.cell i y;have d2:=hG.cell j v;have q1:=U.o i y;have q2:=U.o j v;have a0:(i:Int)<c.length:=(by omega);have a2:(j:Int)<c.length:=(by omega);have AP:=fun nq=>tR ax n (ii l T n) av ap i j (wr.drewN nq) (hA.Zbj (bH.drewN nq)) ac N (by rw[<-E.o];exact y) (by rw[<-E.o];exact v);have AR:=fun nq=>DY d D L a f b g r hv hm (K i) (K j) (lz g (c.map Ex.xs) c.length i) (lz g (c.map Ex.xs) c.length j) (wr.drewN nq) ((ar.Zbj p).Zbj (bH.drewN nq)) ((M.Zbj p).Zbj (bH.drewN nq)) aq af ((hG.Zbj (bH.drewN nq)).ZbH i y) ((hG.Zbj (bH.drewN nq)).ZbH j v) (by omega) (by omega) (Q.o i) (Q.o j);have s:Xq _:=al.o i j y v;have B:Xq (uI l T (n,c.map Ex.xs) g r i j=true->∀m,i<m->m<j+1->uI l T (n,c.map Ex.xs) g r i m=true):=by
    intro hh m h1 M;by_cases e:m=j
    ·subst e;exact hh
    ·exact u.o m h1 (by omega)
   have F:Xq (uI l T (n,c.map Ex.xs) g r i j=false->R=false):=by
    intro hh;cases e:R
    ·rfl
    ·have:=HT.o.1 e i y j v (by omega);rw[this]at hh;cases hh
   have A:Xq _:=AP;have C:Xq _:=AR;clear AP AR q u hG hA;generalize lz g (c.map Ex.xs) c.length i=X at *;generalize lz g (c.map Ex.xs) c.length j=Y at *;cases hb:fE n.length (ii l T n) i j
   ·have J:Xq _:=B.o (by rw[s.o,hb];rfl);rw[hb]at A;clear F B;(go_upto_region 9 with fail);go_quiet (first | (go_at_call 214;exact XW (A.o _)));go_wp2;go_roundg (c.length-(j+1))
    ·exact⟨j+1,by omega,by omega,rfl,by go_num,J.o,p.drewN _⟩
    omega
   ·rw[hb]at A;cases hc:Ch g.length r X Y
    ·have J:Xq _:=F.o (by rw[s.o,hb,hc];rfl);rw[hc]at C;clear F B;(go_upto_region 9 with fail);go_quiet (first | (go_at_call 214;exact XW (A.o _)) | (go_at_call 276;exact ZaI (C.o _)));go_wp2;go_ret;exact⟨aH J.o.symm,K2.trans (p.drewN _)⟩
    ·have J:Xq _:=B.o (by rw[s.o,hb,hc];rfl);rw[hc]at C;clear F B;(go_upto_region 9 with fail);go_quiet (first | (go_at_call 214;exact XW (A.o _)) | (go_at_call 276;exact ZaI (C.o _)));go_wp2;go_roundg (c.length-(j+1))
     ·exact⟨j+1,by omega,by omega,rfl,by go_num,J.o,p.drewN _⟩
     omega
  ·have HN:Xq (∀z,z<i+1->∀m,m<c.length->z<m->uI l T (n,c.map Ex.xs) g r z m=true):=by
    intro z h1 m M h3;by_cases e:z=i
    ·subst e;exact u.o m h3 (by omega)
    ·exact q.o z (by omega) m M h3
   clear u q;go_wp2;go_roundg (c.length-(i+1))
   ·exact⟨i+1,by omega,rfl,by go_num,HN,p⟩
   omega
 ·have J:Xq (R=true):=HT.o.2 (fun z h1 m M h3=>q.o z (by omega) m M h3);clear q;go_wp2;go_ret;exact⟨aH J.o.symm,K2.trans hK⟩
def FM(l:List St)(a n:Nat):Option Xr:=match l[n]? with
 | some s=>if(s.Zby==2)=true/\iI l n a=true then some (aB s) else none
 | none=>none
def uu(l:List St)(a k:Nat):Xs:=(List.range k).filterMap (FM l a)
def CI(l:List St)(a:Nat):Xs:=uu l a l.length
theorem QM(h:S<w.length)(a:(w[S].Zby==2)=true)(b:iI w S T=true):uu w T (S+1)=uu w T S++[aB w[S]]:=by
 unfold uu;rw[YG,Zs];simp[FM,h,a,b]
theorem UN(h:S<w.length)(a:(w[S].Zby==2)=false∨iI w S T=false):uu w T (S+1)=uu w T S:=by
 unfold uu;rw[YG,Zs];have:FM w T S=none:=by
  unfold FM;rw[Xv h];simp only;rw[Xz];rintro ⟨b,c⟩;rcases a with a | a
  ·rw[a]at b;cases b
  ·rw[a]at c;cases c
 simp[this]
theorem FN:(uu w T S).length<=S:=by
 have:=ZP (FM w T) (List.range S);unfold uu;simpa using this
theorem ut(h:dQ I a f w N)(ok:iV w) :
  Calls prog 207 #[pointer (some ⟨a,f,none⟩),int i64 b] I fun e w'=>∃d:Hd,e=returned (slice d.ao (CI w b).length d.cap)/\aD w' d (aE (CI w b))/\(∀x,d.Zbx=some x->I.heap.size<=x)/\aa [] I w':=by
 obtain⟨i0,hi,V,W,X⟩:=XV i9;have Z:=ok.len;go_enter func207,ntmps207;go_wp2
 go_loopg [5,6] w.length (fun gk sv i wr=>∃(k:Nat) (d:Hd),k<=w.length/\gk=w.length-k/\i=int i64 k/\sv=slice d.ao (uu w b k).length d.cap/\aD wr d (aE (uu w b k))/\(∀x,d.Zbx=some x->I.heap.size<=x)/\aa [] I wr)
 ·exact⟨0,⟨none,0⟩,by omega,by omega,rfl,rfl,XE _ _ _ _,by intro x z;simp[Hd.Zbx]at z,aa.refl _ _⟩
 obtain⟨k,d,hk,hg,rfl,rfl,S,C,Q⟩:=hrel;have K:=h.Zbj Q;have ac:=FN w b k;by_cases g:k<w.length
 ·have af:=ok.syms k g;have F:Xq _:=QM w b k g;have l:Xq _:=UN w b k g;have M:=jD w[k] (N (10+2*k)) (N (11+2*k));unfold du at M;have L:Xq _:=M;clear M;go_upto_region 6 with (first | (go_at_call 79;refine(fn a f w N _ (by exact K)).mono ?_;rintro e wc ⟨rfl,v⟩;rw[v]) | (go_at_call 96;refine(bu a f k w N _ (by exact K) g).mono ?_;rintro e w3 ⟨rfl,U⟩;unfold du))
  obtain⟨G,o⟩:∃G,G=w3.alloc (.cells #[int i64 w[k].Zby,string w[k].Zbz,slice (N (10+2*k)).ao w[k].Zbe.length (N (10+2*k)).cap,slice (N (11+2*k)).ao w[k].Zbp.length (N (11+2*k)).cap,string w[k].ZbC.ZbD,int i64 w[k].ZbC.ZbE,int i64 w[k].ZbC.ZbF,int i64 w[k].til] 158):=⟨_,rfl⟩
  have s:aa [] wr G:=by rw[o];exact U.alloc _
  have B4:=dC o.symm;rw[<-o];clear o;obtain⟨u0,u1,u2,u3,u4,u5,u6,u7⟩:=yY B4;have t:=K.Zbj s;have m:aD G d (aE (uu w b k)):=S.Zbo (fun x z=>s.block x (S.lt z) (by simp));have T:=(t.Zbv.syms k w[k] (Xv g)).view;have r:=Q.trans s;cases Y:(w[k].Zby==2)
  ·have p:Xq _:=l.o (XQ Y);clear F l;go_wp2;go_roundg (w.length-(k+1))
   ·exact⟨k+1,d,by omega,rfl,by go_num,by rw[p.o],by rw[p.o];exact m,C,r⟩
   omega
  ·cases H:iI w k b
   ·have p:Xq _:=l.o (XK H);clear F l;go_wp2_with (go_at_call 186;refine(i8 a f k b w N _ (by exact t) g).mono ?_;rintro e wd ⟨rfl,y⟩;rw[y,H]);go_roundg (w.length-(k+1))
    ·exact⟨k+1,d,by omega,rfl,by go_num,by rw[p.o],by rw[p.o];exact m,C,r⟩
    omega
   ·have p:Xq _:=F.o Y H;clear F l;go_wp2_with (first | (go_at_call 186;refine(i8 a f k b w N _ (by exact t) g).mono ?_;rintro e wd ⟨rfl,y⟩;rw[y,H]) | (go_at_call 188;refine(L.o _ (by exact T) (by omega)).mono ?_;rintro e w5 ⟨rfl,k5⟩;have D:=m.Zbo (fun x z=>(k5.alloc (.cells #[string (aB w[k])] 9)).block x (m.lt z) (by simp))) | (at_builtin;refine aR _ rfl (.tmp 26) (.tmp 29) 61 rfl i0 (string ⟨#[]⟩) 16 d (aE (uu w b k)) underlying61 hi V W X rfl XR rfl (by exact D) ⟨_,0,none⟩ 1 1 [string (aB w[k])] rfl rfl ?d1 ?d2 XR ?d3 ?d4 ?_))
    case d1=>intro j u J;match j,J with | 0,J=>simp at J;subst J;simp[Addr.add]
    case d2=>intro u hu;simp at hu;subst hu;rfl
    case d3=>simp only[aE];unfold maxLen;omega
    case d4=>simp only[aE];omega
    intro O A w6 E q c;rw[dy (uu w b k) (aB w[k]),<-p.o]at E;have B:=(r.trans k5).alloc (.cells #[string (aB w[k])] 9);have R:=B.grown q C;have ad:I.heap.size<=O:=by
     rcases c with e | e
     ·exact C O e
     ·have:=B.size;simp at e this;omega
    have P:Xq ((aE (uu w b k)).n+1=(uu w b (k+1)).length):=cm (by rw[p.o];simp[aE]);rw[P.o];clear q c D;go_wp2;go_roundg (w.length-(k+1))
    ·exact⟨k+1,⟨some ⟨O,0,none⟩,A⟩,by omega,rfl,by go_num,rfl,E,by intro x z;simp[Hd.Zbx]at z;omega,R⟩
    omega
 ·have e:k=w.length:=by omega
  subst e;go_wp2_with (go_at_call 79;refine(fn a f w N _ (by exact K)).mono ?_;rintro e wc ⟨rfl,v⟩;rw[v]);go_ret;exact⟨d,rfl,S,C,Q⟩
def stD:St:=⟨0,⟨#[]⟩,[],[],⟨⟨#[]⟩,0,0⟩,0⟩
abbrev WT:=List ByteArray×List (List ByteArray)
def rm(l:List St):Xu->List Xs->WT->Int×WT
 | h :: hs,e :: es,S=>if((pF (l.getD h stD) e S).1==0)=true then rm l hs es (pF (l.getD h stD) e S).2 else pF (l.getD h stD) e S
 | _,_,S=>(0,S)
def xi(l:List St)(n:Nat)(vs:Xs)(ms:List Bool)(sy:Xs)(R:Int×WT):Int×Xs :=
 if(R.1==0)=true then(if GR l n R.2 vs ms=true then(0,tD R.2.1 R.2.2 sy) else(9,[])) else(R.1,[])
def lG(l:List St)(n:Nat)(vs:Xs)(ms:List Bool)(th:List Xs):Int×Xs :=
 if th.length<(aM l n).length then(6,[])
 else xi l n vs ms (l.getD n stD).Zbe (rm l (aM l n) (th.drop (th.length-(aM l n).length)) ([],[]))
theorem Eq(h:S<w.length):w.getD S stD=w[S]:=by rw[Xw,Xv h];rfl
theorem NY(S:WT)(i:Nat)(a:i<x.length)(b:i<y5.length)(c:x[i]<w.length) :
  rm w (x.drop i) (y5.drop i) S=if((pF w[x[i]] y5[i] S).1==0)=true then rm w (x.drop (i+1)) (y5.drop (i+1)) (pF w[x[i]] y5[i] S).2 else pF w[x[i]] y5[i] S:=by
 rw[X0 a,X0 b,rm,Eq w _ c]
theorem JY(S:WT)(i:Nat)(a:¬i<x.length):rm w (x.drop i) y5 S=(0,S):=by
 rw[YQ (by omega)];cases y5 <;> rfl
structure QD(S:WT)(N:Nat):Prop where
 one:S.1.length<=N
 two:∀y∈S.2,y.length<=10000
theorem Vc(s:St)(e:Xs)(S:WT)(N:Nat)(h:QD S N)(b:e.length<=10000):QD (pF s e S).2 (N+1):=by
 have c:=h.one;unfold pF;split
 ·split <;> exact⟨by simp only;omega,h.two⟩
 ·split
  ·exact⟨by simp only;omega,h.two⟩
  ·next x r =>
   split
   ·refine⟨by simp;omega,fun y a=>?_⟩;simp at a;rcases a with a | rfl
    ·exact h.two y a
    ·simp at b;omega
   ·exact⟨by simp only;omega,h.two⟩
theorem Of(k:Nat):∀x∈eF w S k,x<k:=by
 induction k with
 | zero=>intro x a;simp[eF]at a
 | succ k b =>
  intro x a;cases h:og w (iz w S) S k
  ·rw[xD w S k h]at a;have:=b x a;omega
  ·rw[At w S k h]at a;simp at a;rcases a with a | rfl
   ·have:=b x a;omega
   ·omega
theorem GL(h:y∈aM yf l):y<yf.length:=Of yf l yf.length y h
theorem aD.cutE(o:aD H yd (iK M))(c:Nat)(v:c<=M.length):aD H yd (iK (M.take c)):=by
 have e:(M.take c).length=c:=by simp;omega
 refine⟨by simp[iK,Gn],?_⟩;rcases o.2 with ⟨f,t⟩ | ⟨g,a,b,f,q,r,k,m,n,p⟩
 ·left
  have:M.length=0:=t;have s:M=[]:=XY this;subst s;simp[iK]at f ⊢;exact f
 ·right
  have l:M.length<=a:=k;refine⟨g,a,b,?_,q,r,?_,m,n,?_⟩
  ·injection f with i u j
   simp only[iK];rw[i,j]
  ·show(M.take c).length<=a
   omega
  ·show b.toList.take ((M.take c).length*1)=Gn (M.take c);have d:b.toList.take (M.length*1)=Gn M:=p;rw[e];unfold Gn at d ⊢;rw[Zba,<-d,ZaE];congr 1;omega
def wQ(sh th:List Ex):Nat->eD
 | 0=>iK sh
 | 1=>iK th
 | _+2=>iK []
def rF(rb ro g n tb:Nat)(sh th:List Ex)(H:Nat->Hd):List Value :=
 [pointer (some ⟨rb,ro,none⟩),slice (some ⟨g,0,none⟩) n n,pointer (some ⟨tb,0,none⟩),slice (H 0).ao sh.length (H 0).cap,slice (H 1).ao th.length (H 1).cap]
structure yj(w:World)(b rb ro g n tb:Nat)(sh th:List Ex)(H:Nat->Hd):Prop where
 bag:aO w b 307 (rF rb ro g n tb sh th H) (wQ sh th) H
 shs:∀e∈sh,uR w b H e.hd e.xs/\e.xs.length<=32
 ths:∀e∈th,uR w b H e.hd e.xs/\e.xs.length<=32
theorem yj.Zbj(h:yj H l y z5 s z7 zt M y3 v)(k:aa [] H z6):yj z6 l y z5 s z7 zt M y3 v :=
 ⟨h.bag.Zbj k,fun e a=>⟨(h.shs e a).1.Zbj k,(h.shs e a).2⟩,fun e a=>⟨(h.ths e a).1.Zbj k,(h.ths e a).2⟩⟩
theorem yj.ctx(h:yj H l y z5 s z7 zt M y3 v):Cd H l y z5 s z7 zt:=⟨_,_,h.bag.Zbx,rfl,rfl,rfl⟩
theorem yj.cells{g:Nat}(h:yj H l y z5 g s z7 M y3 v) :
  H.cell? ⟨l,3,none⟩=some (slice (v 0).ao M.length (v 0).cap)/\H.cell? ⟨l,4,none⟩=some (slice (v 1).ao y3.length (v 1).cap):=⟨h.bag.cell 3,h.bag.cell 4⟩
structure Jw(w:World)(rb ro g tb:Nat)(l:List St)(HR K:Nat->Hd)(vs:Xs)(ms:List Bool)(hv hm:Hd):Prop where
 recd:dQ w rb ro l HR
 ok:iV l
 all:ji w g l l.length K
 ap:mA w tb vs ms hv hm
 hml:ms.length=vs.length*vs.length
 hvl:vs.length<=10000
theorem Jw.Zbj{a:Hd}(h:Jw H l y z5 s yf v yr y6 yg yd a)(k:aa [] H z6):Jw z6 l y z5 s yf v yr y6 yg yd a :=
 ⟨h.recd.Zbj k,h.ok,h.all.Zbj k,h.ap.Zbj k,h.hml,h.hvl⟩
structure oV(w0 w:World)(b rb ro g n tb:Nat)(sh th:List Ex)(H:Nat->Hd):Prop where
 ply:yj w b rb ro g n tb sh th H
 Zbw:aa [] w0 w
 hb:w0.heap.size<=b
 hin:∀x,eG H x->w0.heap.size<=x
theorem oV.Zbj{a:World}(h:oV H z6 l y z5 s z7 zt M y3 v)(k:aa [] z6 a):oV H a l y z5 s z7 zt M y3 v :=
 ⟨h.ply.Zbj k,h.Zbw.trans k,h.hb,h.hin⟩
theorem uR.turned(f:uR H l v yd y6)(t:aw l H v z6 yr):uR z6 l yr yd y6:=by
 refine⟨f.view.keptP t.1 (fun x c=>?_),fun x c=>?_⟩
 ·obtain⟨_,a,b⟩:=f.far x c;rintro (e | e)
  ·exact a e
  ·exact b e
 ·obtain⟨d,a,b⟩:=f.far x c;exact⟨XB d t.1.size,a,t.fresh x d b⟩
theorem aO.reset{b:List Value}{a rows':Nat->eD}(h:aO H l y b a v)(c:Nat)(u:Value)(o:∀i,aD H (v i) (rows' i)) :
  aO (H.setCell ⟨l,c,none⟩ u) l y (b.set c u) rows' v/\aw l H v (H.setCell ⟨l,c,none⟩ u) v:=by
 obtain⟨d,e⟩:=h.set c u;refine⟨⟨d.Zbx,fun i=>(o i).Zbo (fun k f=>XN _ _ _ _ ?_),h.apart,h.off⟩,e⟩;rintro rfl;exact h.off i f
theorem wj:uR o b N ⟨none,0⟩ []:=⟨XQ rfl,fun x a=>by simp[Hd.Zbx]at a⟩
theorem Nz(K:Nat->Hd)(A:Xs)(z:List Bool)(hv hm:Hd)(sh c:List Ex)(H:Nat->Hd)(E:Jw y2 D L a f w N K A z hv hm)(P:oV y2 o d D L a w.length f sh c H)(hn:b<w.length)(hA:xE w b=true)(b8:c.length<=2000000) :
  Calls prog 260 #[pointer (some ⟨d,0,none⟩),int i64 b] o fun e s=>∃(av:List Ex) (u:Ex),
   e=returned (tuple #[slice u.hd.ao u.xs.length u.hd.cap,int i64 (lG w b A z (c.map Ex.xs)).1])/\u.xs=(lG w b A z (c.map Ex.xs)).2/\oV y2 s d D L a w.length f sh av H/\uR s d H u.hd u.xs /\
   (((lG w b A z (c.map Ex.xs)).1==0)=true->av=c.take (c.length-(aM w b).length))/\av.length<=c.length:=by
 have Ew:=E.Zbj P.Zbw;have bv:=E.ok.len;obtain⟨p0,p1,p2⟩:=P.ply.ctx.cells;obtain⟨p3,p4⟩:=P.ply.cells;have bg:nL w w.length b=aM w b:=by unfold nL;rw[XA ⟨hn,hA⟩]
 have ca:=Ew.all.cell b hn;have oa:=Ew.all.ZbH b hn;rw[bg]at ca oa;obtain⟨AO,az⟩:=aP ((K b).ao);rw[az.o]at ca;have b7:(aM w b).length<=w.length:=rt w b w.length;have bd:∀i (hi:i<(aM w b).length),(aM w b)[i]<w.length:=fun i hi=>GL (XM hi);have b6:(b:Int)<w.length:=by omega
 have bs:¬(b:Int) ≥ w.length:=by omega
 clear bg p2 p3;by_cases hu:c.length<(aM w b).length
 ·have HF:Xq (lG w b A z (c.map Ex.xs)=(6,[])):=by show _=_;unfold lG;rw[XZ,XA hu]
  have bw:(c.length:Int)-(aM w b).length<0:=by omega
  go_enter func260,ntmps260;go_wp2;exact XG (v:=tuple #[slice none 0 0,int i64 6]) (by simp[results,results260,go_sem]) rfl
   ⟨c,⟨⟨none,0⟩,[]⟩,by rw[HF.o];rfl,by rw[HF.o],P,wj _ _ _,by rw[HF.o];simp,Xy _⟩
 ·obtain⟨g,hf⟩:∃g,c.length-(aM w b).length=g:=⟨_,rfl⟩
  have b5:(c.length:Int)-(aM w b).length=(g:Int):=by omega
  have b3:¬(g:Int)<0:=by omega
  obtain⟨RR,a0⟩:∃RR,Xq (RR=rm w (aM w b) ((c.map Ex.xs).drop g) ([],[])):=⟨_,rfl⟩
  have HF:Xq (lG w b A z (c.map Ex.xs)=xi w b A z w[b].Zbe RR):=by
   show _=_;unfold lG;rw[XZ,Xz hu,Eq w b hn,hf,a0.o]
  rw[hf];have ba:g+(aM w b).length=c.length:=by omega
  have aS:Xq _:=ba;clear hf ba;obtain⟨W,hW⟩:∃W,W=o.alloc (.cells #[slice none 0 0,slice none 0 0] 343):=⟨_,rfl⟩
  have kW:=dx hW.symm;have SI:oX W o.heap.size [] [] pg:=by
   rw[hW];refine⟨⟨XD _ _,?_,fun i j _=>XQ rfl,fun i e=>by simp[pg,Hd.Zbx]at e⟩,rfl,by simp⟩;intro i
   match i with
   | 0=>exact XE _ _ _ _
   | 1=>exact XE _ _ _ _
   | m+2=>exact XE _ _ _ _
  have HW:Xq _:=hW.symm;clear hW;go_enter func260,ntmps260;go_upto_region 8 with fail
  rw[HW.o];clear HW p0 p1 p4 ca;go_wp2
  go_loopg [9] (aM w b).length (fun gk iv wr=>∃(i:Nat) (S:WT) (t:List Ex) (Hs:Nat->Hd),i<=(aM w b).length/\gk=(aM w b).length-i/\iv=int i64 i/\QD S i/\t.map Ex.xs=S.2/\Xq (RR=rm w ((aM w b).drop i) (((c.map Ex.xs).drop g).drop i) S)/\oX wr o.heap.size S.1 t Hs/\(∀x,eG Hs x->o.heap.size<=x)/\(∀e∈t,e.hd.Zbx≠some d)/\aa [] o wr)
  ·exact⟨0,([],[]),[],pg,by omega,by omega,rfl,⟨by simp,by simp⟩,rfl,a0.o,SI,fun x l=>by obtain⟨i,hi⟩:=l;simp[pg,Hd.Zbx]at hi,by simp,kW⟩
  obtain⟨i,S,t,Hs,hi,hg,rfl,F,ad,hR,hS,ac,a5,U⟩:=hrel;by_cases R:i<(aM w b).length
  ·obtain⟨G,S2⟩:=S;simp only at ad;subst ad;have Pr:=P.Zbj U;have aq:g+i<c.length:=by have:=aS.o;omega
   have oT:aD wr (H 1) (iK c):=Pr.ply.bag.ZbH 1;rcases oT.Zbu with ⟨_,h0,_⟩ | ⟨gt,a3,Z,-,am,-⟩
   ·have:c.length=0:=h0;omega
   have oH:aD wr (K b) (bK (aM w b)):=oa.Zbo (fun x l=>U.block x (oa.lt l) (by simp));rcases oH.Zbu with ⟨_,h0,_⟩ | ⟨gh,bp,eh,-,b0,-⟩
   ·have:(aM w b).length=0:=h0;omega
   have ch:=oH.cell eh i (int i64 (aM w b)[i]) (mh _ i R);have ct:=oT.cell Z (g+i) (Ae c[g+i]) (wi c (g+i) aq);obtain rfl:AO=some ⟨gh,0,none⟩:=az.o.symm.trans eh;have a6:c.length<=(H 1).cap:=am;have n:=(P.ply.ths c[g+i] (XM aq));have af:=bd i R;have B:Xq _:=(hR.o.trans (NY w (aM w b) ((c.map Ex.xs).drop g) (G,t.map Ex.xs) i R (by simp;omega) af));have e1:((c.map Ex.xs).drop g)[i]'(by simp;omega)=c[g+i].xs:=(by simp);rw[e1]at B;have ax:=Vc w[(aM w b)[i]] c[g+i].xs (G,t.map Ex.xs) i F (by omega);have FT:=fun(w3:World) (y:aa [] wr w3)=>Vd o.heap.size G t Hs w[(aM w b)[i]] (N (10+2*(aM w b)[i])) (N (11+2*(aM w b)[i])) c[g+i].hd c[g+i].xs w3 (hS.Zbj y) (by have:=F.one;simp only at this;omega) (fun e r=>F.two _ (ZQ r)) ((((E.Zbj (Pr.Zbw.trans y)).recd.Zbv.syms _ w[(aM w b)[i]] (Xv af)).view)) (E.ok.syms _ af) ⟨(n.1.Zbj (U.trans y)).view,fun x l=>⟨XB (n.1.far x l).1 (U.trans y).size,by have:=(n.1.far x l).1;omega,fun hm=>by have:=ac x hm;have:=(n.1.far x l).1;omega⟩⟩ (by omega);have ST:=fun(w3:World) (y:aa [] wr w3)=>bu D L (aM w b)[i] w N w3 (E.Zbj (Pr.Zbw.trans y)).recd af;have p4:=Pr.ply.cells.2;have p0:=Pr.ply.ctx.cells.1;rw[Z]at p4;have M:Xq (∀s,aa [] o s->s.cell? ⟨d,0,none⟩=some (pointer (some ⟨D,L,none⟩))/\s.cell? ⟨gh,i,none⟩=some (int i64 (aM w b)[i])/\s.cell? ⟨d,4,none⟩=some (slice (some ⟨gt,0,none⟩) c.length (H 1).cap)/\s.cell? ⟨gt,g+i,none⟩=some (Ae c[g+i])):=by
    intro s k;have P':=P.Zbj k;refine⟨P'.ply.ctx.cells.1,(oa.Zbo (fun x l=>k.block x (oa.lt l) (by simp))).cell eh i _ (mh _ i R),?_,(P'.ply.bag.ZbH 1).cell Z (g+i) (Ae c[g+i]) (wi c (g+i) aq)⟩;rw[<-Z];exact P'.ply.cells.2
   have aT:Xq (∀x,(x=o.heap.size∨eG Hs x)->o.heap.size<=x):=by
    rintro x (e | e)
    ·omega
    ·exact ac x e
   have J:Xq _:=FT;have a1:Xq _:=ST;have bz:IntKind.i64.wrap ((g:Int)+i)=(g:Int)+i:=(by rw[YS];omega);have bq:(0:Int)<=(g:Int)+i:=(by omega);have br:(g:Int)+i<c.length:=(by omega);have cb:((g:Int)+i).toNat=g+i:=(by omega);have an:=n.1.far;clear FT ST hR e1 oT oH n Z eh;unfold Ae at ct M;generalize c[g+i]=u at *;generalize (aM w b)[i]=ar at *;generalize pF w[ar] u.xs (G,t.map Ex.xs)=Q at *;obtain⟨q,S9⟩:=Q;simp only at B ax J;have bl:u.hd.Zbx≠some d:=fun e=>(an d e).2.1 rfl;cases hq:(q==0)
   ·have bm:(q != 0)=true:=(by simp[bne,hq]);have I:Xq (lG w b A z (c.map Ex.xs)=(q,[])):=cm (by rw[HF.o,B.o,Xz (by rw[hq];simp)];simp[xi,hq]);clear B;(go_upto_region 11 with fail);go_region_held3 (fun s=>s.cell? ⟨d,0,none⟩=some (pointer (some ⟨D,L,none⟩))/\s.cell? ⟨gh,i,none⟩=some (int i64 ar)/\s.cell? ⟨d,4,none⟩=some (slice (some ⟨gt,0,none⟩) c.length (H 1).cap)/\s.cell? ⟨gt,g+i,none⟩=some (slice u.hd.ao u.xs.length u.hd.cap)) (go_keep) (first | (go_at_call 96;refine(a1.o _ (by exact bH.drew)).mono ?_;rintro e w3 ⟨rfl,y⟩;obtain⟨x0,x1,x2,x3⟩:=M.o w3 (U.drew.trans y)) | (go_at_call 271;refine(J.o _ (by exact bH.drew.trans y)).mono ?_;rintro e w9 ⟨al,H9,rfl,a2,ag,T9,T⟩;have K9:=(U.drew.trans y).ofP T9.1 aT.o;obtain⟨z0,z1,z2,z3⟩:=M.o w9 K9))
    all_goals
     clear z0 z1 z2 z3 x0 x1 x2 x3;go_wp2;exact XG (v:=tuple #[slice none 0 0,int i64 q]) (by simp[results,results260,go_sem]) rfl
      ⟨c,⟨⟨none,0⟩,[]⟩,by rw[I.o];rfl,by rw[I.o],P.Zbj K9,wj _ _ _,fun hh=>by rw[I.o]at hh;exact absurd (hq.symm.trans hh) (by simp),Xy _⟩
   ·have bm:(q != 0)=false:=(by simp[bne,hq]);have I:Xq (RR=rm w ((aM w b).drop (i+1)) (((c.map Ex.xs).drop g).drop (i+1)) S9):=cm (by rw[B.o,XA hq]);clear B;(go_upto_region 11 with fail);go_region_held3 (fun s=>s.cell? ⟨d,0,none⟩=some (pointer (some ⟨D,L,none⟩))/\s.cell? ⟨gh,i,none⟩=some (int i64 ar)/\s.cell? ⟨d,4,none⟩=some (slice (some ⟨gt,0,none⟩) c.length (H 1).cap)/\s.cell? ⟨gt,g+i,none⟩=some (slice u.hd.ao u.xs.length u.hd.cap)) (go_keep) (first | (go_at_call 96;refine(a1.o _ (by exact bH.drew)).mono ?_;rintro e w3 ⟨rfl,y⟩;obtain⟨x0,x1,x2,x3⟩:=M.o w3 (U.drew.trans y)) | (go_at_call 271;refine(J.o _ (by exact bH.drew.trans y)).mono ?_;rintro e w9 ⟨al,H9,rfl,a2,ag,T9,T⟩;have K9:=(U.drew.trans y).ofP T9.1 aT.o;obtain⟨z0,z1,z2,z3⟩:=M.o w9 K9))
    all_goals
     have bj:∀x,eG H9 x->o.heap.size<=x:=fun x l=>by
      rcases T9.2 x l with e | e
      ·exact ac x e
      ·exact XF (U.drew.trans y).size e
     have bk:∀e∈al,e.hd.Zbx≠some d:=fun e r=>by
      rcases T e r with q | q
      ·exact a5 e q
      ·rw[q];exact bl
     clear z0 z1 z2 z3 x0 x1 x2 x3;go_wp2;go_roundg ((aM w b).length-(i+1))
     ·exact⟨i+1,S9,al,H9,by omega,rfl,by go_num,ax,ag,I.o,a2,bj,bk,K9⟩
     omega
  ·obtain⟨G,S2⟩:=S;simp only at ad;subst ad;have Y:Xq (lG w b A z (c.map Ex.xs)=xi w b A z w[b].Zbe (0,(G,t.map Ex.xs))):=by
    show _=_;rw[HF.o,hR.o,JY _ _ _ _ _ R]
   have Pr:=P.Zbj U;have Er:=E.Zbj Pr.Zbw;have bo:=F.one;simp only at bo;have KA:=Ax d D L a w.length f b o.heap.size w N A z hv hm G t Hs wr Pr.ply.ctx Er.ap E.hml E.hvl Er.recd E.ok hS (by omega) (fun e r=>F.two _ (ZQ r));clear hR;cases hk:GR w b (G,t.map Ex.xs) A z
   ·have I:Xq (lG w b A z (c.map Ex.xs)=(9,[])):=(by show _=_;rw[Y.o];simp[xi,hk]);rw[hk]at KA;clear Y;(go_upto_region 15 with (go_at_call 272;refine KA.mono ?_;rintro e w2 ⟨rfl,k2⟩));go_wp2;exact XG (v:=tuple #[slice none 0 0,int i64 9]) (by simp[results,results260,go_sem]) rfl
     ⟨c,⟨⟨none,0⟩,[]⟩,by rw[I.o];rfl,by rw[I.o],Pr.Zbj k2,wj _ _ _,by rw[I.o];simp,Xy _⟩
   ·have I:Xq (lG w b A z (c.map Ex.xs)=(0,tD G (t.map Ex.xs) w[b].Zbe)):=(by show _=_;rw[Y.o];simp[xi,hk]);rw[hk]at KA;clear Y;(go_upto_region 16 with (go_at_call 272;refine KA.mono ?_;rintro e w2 ⟨rfl,k2⟩));have O:=Pr.Zbj k2;have C:=hS.Zbj k2;have p4:=O.ply.cells.2;have y4:=O.ply.bag.free;have oT:aD w2 (H 1) (iK c):=O.ply.bag.ZbH 1;have bc:g<=c.length:=(by have:=aS.o;omega);have b1:o.heap.size > d:=P.ply.bag.lt;have GO:∀V,V=slice (H 1).ao (c.take g).length (H 1).cap->∃X,X=w2.setCell ⟨d,4,none⟩ V/\aa [] y2 X/\oV y2 X d D L a w.length f sh (c.take g) H/\oX X o.heap.size G t Hs:=by
     rintro V rfl
     obtain⟨bT,D2⟩:=O.ply.bag.reset (rows':=wQ sh (c.take g)) 4 (slice (H 1).ao (c.take g).length (H 1).cap) (by
      intro j
      match j with
      | 0=>exact O.ply.bag.ZbH 0
      | 1=>exact oT.cutE g bc
      | m+2=>exact O.ply.bag.ZbH (m+2))
     have kX:=O.Zbw.setCell (p:=⟨d,4,none⟩) (XK P.hb) (slice (H 1).ao (c.take g).length (H 1).cap);have kb:=(fB.refl (fun x=>x=d) w2).setCell (p:=⟨d,4,none⟩) (XQ rfl) (slice (H 1).ao (c.take g).length (H 1).cap);exact⟨_,rfl,kX,⟨⟨bT,fun e r=>⟨(O.ply.shs e r).1.turned D2,(O.ply.shs e r).2⟩,fun e r=>⟨(O.ply.ths e (Zx r)).1.turned D2,(O.ply.ths e (Zx r)).2⟩⟩,kX,P.hb,P.hin⟩,⟨C.bag.keptP kb (by omega) (fun x l=>by have:=ac x l;omega),C.len,fun e r=>⟨(C.exs e r).view.keptP kb (fun x l e2=>a5 e r (e2 ▸ l)),(C.exs e r).adr,fun x l=>⟨XB ((C.exs e r).far x l).1 kb.size,((C.exs e r).far x l).2⟩⟩⟩⟩
    have GO:Xq _:=GO;rcases oT.Zbu with ⟨e0,h0,-⟩ | ⟨gt,a3,Z,-,am,-⟩
    focus
     have a4:c.length=0:=h0;have a7:g=0:=(by omega);have ai:Xq (slice none 0 0=slice (H 1).ao (c.take g).length (H 1).cap):=cm (by rw[e0,a7];rfl);rw[e0,a4]at p4;clear e0 h0 a4;(go_upto_region 17 with fail);obtain⟨X,hX,kX,PX,SX⟩:=GO.o _ ai.o;rw[<-hX]
    rotate_left
    focus
     have ai:Xq (slice (some ⟨gt,0,none⟩) g (H 1).cap=slice (H 1).ao (c.take g).length (H 1).cap):=cm (by rw[Z];simp;omega);have a6:c.length<=(H 1).cap:=am;have b4:(g:Int)<=(H 1).cap:=(by omega);rw[Z]at p4;clear Z;(go_upto_region 17 with fail);obtain⟨X,hX,kX,PX,SX⟩:=GO.o _ ai.o;rw[<-hX]
    all_goals
     have p0:=PX.ply.ctx.cells.1;have b2:=PX.ply.bag.lt;have bf:=fun x (l:eG H x)=>PX.ply.bag.inlt l;have bx:=E.ok.syms b hn;have EX:=E.Zbj kX;clear hX p4 y4 KA GO;go_wp2_with (first | (go_at_call 96;refine(bu D L b w N _ (by exact EX.recd) hn).mono ?_;rintro e w6 ⟨rfl,k6⟩;unfold du) | (go_at_call 273;refine(yE o.heap.size G t Hs (N (10+2*b)) w[b].Zbe _ (by exact SX.Zbj k6) (by omega) (fun e r=>F.two _ (ZQ r)) (((EX.Zbj k6).recd.Zbv.syms b w[b] (Xv hn)).view) (by omega)).mono ?_;rintro e w7 ⟨hd,rfl,o7,n7,k7⟩));have cc:=k6.size;exact XG (v:=tuple #[slice hd.ao (tD G (t.map Ex.xs) w[b].Zbe).length hd.cap,int i64 0]) (by simp[results,results260,go_sem]) rfl
      ⟨c.take g,⟨hd,tD G (t.map Ex.xs) w[b].Zbe⟩,by rw[I.o],by rw[I.o],PX.Zbj (k6.trans k7),⟨o7.view,fun x l=>⟨o7.lt l,by have:=n7 x l;omega,fun hm=>by have:=n7 x l;have:=bf x hm;omega⟩⟩,fun _=>rfl,by simp;omega⟩
def lV(l:List St)(vs:Xs)(ms:List Bool)(sh th:List Xs)(s:oI):(Int×Xs)×List Xs :=
 if(s.Zby==3)=true then(if s.Zbf<sh.length then((0,sh.getD s.Zbf []),th) else((5,[]),th))
 else if xE l s.Zbf=true then(lG l s.Zbf vs ms th,th.take (th.length-(aM l s.Zbf).length))
 else((0,(l.getD s.Zbf stD).Zbe),th)
theorem Tz(s:oI)(l:List St)(i K:Nat->Hd)(p:Xs)(m:List Bool)(hv hm:Hd)(g c:List Ex)(H:Nat->Hd)(E:Jw y2 f b T S l i K p m hv hm)(P:oV y2 o a f b T l.length S g c H)(hn:(s.Zby==3)=false->s.Zbf<l.length)(aS:s.Zbf<=2000000)(al:c.length<=2000000) :
  Calls prog 238 #[pointer (some ⟨a,0,none⟩),agg #[int i64 s.Zby,int i64 s.Zbf,string s.at_.ZbD,int i64 s.at_.ZbE,int i64 s.at_.ZbF]] o fun e z=>∃(G:List Ex) (u:Ex),
   e=returned (tuple #[slice u.hd.ao u.xs.length u.hd.cap,int i64 (lV l p m (g.map Ex.xs) (c.map Ex.xs) s).1.1])/\u.xs=(lV l p m (g.map Ex.xs) (c.map Ex.xs) s).1.2/\oV y2 z a f b T l.length S g G H/\uR z a H u.hd u.xs /\
   (((lV l p m (g.map Ex.xs) (c.map Ex.xs) s).1.1==0)=true->G.map Ex.xs=(lV l p m (g.map Ex.xs) (c.map Ex.xs) s).2)/\G.length<=c.length:=by
 obtain⟨W,Z⟩:∃W,W=o.alloc (.cells #[int i64 s.Zby,int i64 s.Zbf,string s.at_.ZbD,int i64 s.at_.ZbE,int i64 s.at_.ZbF] 174):=⟨_,rfl⟩
 have kW:=dx Z.symm;have B:=dC Z.symm;have HW:Xq _:=Z.symm;obtain⟨u0,u1,-⟩:=nJ B;have t:=P.Zbj kW;have EW:=E.Zbj t.Zbw;obtain⟨p0,p1,p2⟩:=t.ply.ctx.cells;obtain⟨p3,p4⟩:=t.ply.cells;have ax:=t.ply.bag.lt;have aT:=ah B;clear Z;cases hk:(s.Zby==3)
 ·have y:=hn hk;have Y:Xq (lV l p m (g.map Ex.xs) (c.map Ex.xs) s=if xE l s.Zbf=true then(lG l s.Zbf p m (c.map Ex.xs),(c.map Ex.xs).take (c.length-(aM l s.Zbf).length)) else((0,l[s.Zbf].Zbe),c.map Ex.xs)):=by
   show _=_;unfold lV;rw[hk,XZ,XZ,Eq l _ y];rfl
  have V:Xq (∀z,aa [] W z->z.cell? ⟨a,0,none⟩=some (pointer (some ⟨f,b,none⟩))/\z.cell? ⟨o.heap.size,1,none⟩=some (int i64 s.Zbf)):=by
   intro z k;refine⟨(t.Zbj k).ply.ctx.cells.1,?_⟩;rw[ab (k.get B (by simp))];rfl
  have J:Xq _:=fun(d:World) (D:aa [] W d)=>bu f b s.Zbf l i d (EW.Zbj D).recd y;have HZ:Xq (∀d,aa [] (W.alloc (.cells #[int i64 0,string ⟨#[]⟩,slice none 0 0,slice none 0 0,string ⟨#[]⟩,int i64 0,int i64 0,int i64 0] 158)).drew d->d.cell? ⟨W.heap.size,0,none⟩=some (int i64 0)/\d.cell? ⟨W.heap.size,1,none⟩=some (string ⟨#[]⟩)/\d.cell? ⟨W.heap.size,2,none⟩=some (slice none 0 0)/\d.cell? ⟨W.heap.size,3,none⟩=some (slice none 0 0)/\d.cell? ⟨W.heap.size,4,none⟩=some (string ⟨#[]⟩)/\d.cell? ⟨W.heap.size,5,none⟩=some (int i64 0)/\d.cell? ⟨W.heap.size,6,none⟩=some (int i64 0)/\d.cell? ⟨W.heap.size,7,none⟩=some (int i64 0)/\∀n,d.frozen? ⟨W.heap.size,n,none⟩=false):=by
   intro d k;have q:=k.get (show(W.alloc (.cells #[int i64 0,string ⟨#[]⟩,slice none 0 0,slice none 0 0,string ⟨#[]⟩,int i64 0,int i64 0,int i64 0] 158)).drew.heap[W.heap.size]?=_ from XD _ _) (by simp);refine⟨?_,?_,?_,?_,?_,?_,?_,?_,fun n=>zcW q n⟩ <;> (rw[ab q];rfl)
  have aq:W.heap.size≠a:=by omega
  have ar:W.heap.size≠o.heap.size:=by omega
  clear p1 p2 p3 p4;go_enter func238,ntmps238;go_upto_region 1 with fail
  rw[HW.o];go_upto_region 5 with fail
  go_region_held3 (fun z=>z.cell? ⟨a,0,none⟩=some (pointer (some ⟨f,b,none⟩))/\z.cell? ⟨o.heap.size,1,none⟩=some (int i64 s.Zbf)) (go_keep) (first | (go_at_call 96;refine(J.o _ (by exact(aa.refl [] W).drew)).mono ?_;rintro e d ⟨rfl,D⟩;obtain⟨x0,x1⟩:=V.o d (bH.drew.trans D);unfold du) | (go_at_call 96;refine(J.o _ (by exact((aa.refl [] W).alloc _).drew)).mono ?_;rintro e d ⟨rfl,D⟩;obtain⟨x0,x1⟩:=V.o d (((aa.refl [] W).alloc _).drew.trans D);obtain⟨q0,q1,q2,q3,q4,q5,q6,q7,qf⟩:=HZ.o d D;unfold du))
  focus
   obtain⟨X,C⟩:∃X,X=d.alloc (.cells #[int i64 l[s.Zbf].Zby,string l[s.Zbf].Zbz,slice (i (10+2*s.Zbf)).ao l[s.Zbf].Zbe.length (i (10+2*s.Zbf)).cap,slice (i (11+2*s.Zbf)).ao l[s.Zbf].Zbp.length (i (11+2*s.Zbf)).cap,string l[s.Zbf].ZbC.ZbD,int i64 l[s.Zbf].ZbC.ZbE,int i64 l[s.Zbf].ZbC.ZbF,int i64 l[s.Zbf].til] 158):=⟨_,rfl⟩
   have R:aa [] W X:=(by rw[C];exact(bH.drew.trans D).alloc _);have I:=dC C.symm;rw[<-C];clear C x0 x1 u0 u1 p0;generalize d.heap.size=xa at I ⊢
  rotate_left
  focus
   obtain⟨X,C⟩:∃X,X=(((((((d.setCell ⟨W.heap.size,0,none⟩ (int i64 l[s.Zbf].Zby)).setCell ⟨W.heap.size,1,none⟩ (string l[s.Zbf].Zbz)).setCell ⟨W.heap.size,2,none⟩ (slice (i (10+2*s.Zbf)).ao l[s.Zbf].Zbe.length (i (10+2*s.Zbf)).cap)).setCell ⟨W.heap.size,3,none⟩ (slice (i (11+2*s.Zbf)).ao l[s.Zbf].Zbp.length (i (11+2*s.Zbf)).cap)).setCell ⟨W.heap.size,4,none⟩ (string l[s.Zbf].ZbC.ZbD)).setCell ⟨W.heap.size,5,none⟩ (int i64 l[s.Zbf].ZbC.ZbE)).setCell ⟨W.heap.size,6,none⟩ (int i64 l[s.Zbf].ZbC.ZbF)).setCell ⟨W.heap.size,7,none⟩ (int i64 l[s.Zbf].til):=⟨_,rfl⟩
   have O:=(((aa.refl [] W).alloc _).drew.trans D);have U:=D.get (show(W.alloc (.cells #[int i64 0,string ⟨#[]⟩,slice none 0 0,slice none 0 0,string ⟨#[]⟩,int i64 0,int i64 0,int i64 0] 158)).drew.heap[W.heap.size]?=_ from XD _ _) (by simp);have R:aa [] W X:=(by rw[C];exact(((((((O.sr1 (Xy _) _).sr1 (Xy _) _).sr1 (Xy _) _).sr1 (Xy _) _).sr1 (Xy _) _).sr1 (Xy _) _).sr1 (Xy _) _).sr1 (Xy _) _);have I:X.heap[W.heap.size]?=some (.cells #[int i64 l[s.Zbf].Zby,string l[s.Zbf].Zbz,slice (i (10+2*s.Zbf)).ao l[s.Zbf].Zbe.length (i (10+2*s.Zbf)).cap,slice (i (11+2*s.Zbf)).ao l[s.Zbf].Zbp.length (i (11+2*s.Zbf)).cap,string l[s.Zbf].ZbC.ZbD,int i64 l[s.Zbf].ZbC.ZbE,int i64 l[s.Zbf].ZbC.ZbF,int i64 l[s.Zbf].til] 158):=by
    rw[C,ae (ae (ae (ae (ae (ae (ae (ae U _ _) _ _) _ _) _ _) _ _) _ _) _ _)];rfl
   rw[<-C];clear C x0 x1 u0 u1 p0 q0 q1 q2 q3 q4 q5 q6 q7 qf O U;generalize W.heap.size=xa at I ⊢
  all_goals
   obtain⟨m0,m1,m2,m3,m4,m5,m6,m7⟩:=yY I;have PX:=t.Zbj R;obtain⟨x0,x1⟩:=V.o X R;have r:Xq _:=My l s.Zbf y;cases F:sU l[s.Zbf].Zby
   ·have j:Xq (lV l p m (g.map Ex.xs) (c.map Ex.xs) s=((0,l[s.Zbf].Zbe),c.map Ex.xs)):=(by show _=_;rw[Y.o,r.o,F];rfl);clear Y r;(go_upto_region 8 with (go_at_call 159;refine(eW l[s.Zbf].Zby _ _ _ _ _ _ _ _).mono ?_;rintro e w5 ⟨rfl,Q⟩;have ac:=Q.get I (by simp)));obtain⟨-,-,a0,-⟩:=yY ac;have o0:=E.recd.Zbv.syms s.Zbf l[s.Zbf] (Xv y);have kk:=(R.trans Q);have L:=t.Zbj kk;clear m0 m1 m2 m3 m4 m5 m6 m7;go_wp2;exact XG (v:=tuple #[slice (i (10+2*s.Zbf)).ao l[s.Zbf].Zbe.length (i (10+2*s.Zbf)).cap,int i64 0]) (by simp[results,results238,go_sem]) rfl
     ⟨c,⟨i (10+2*s.Zbf),l[s.Zbf].Zbe⟩,by rw[j.o],by rw[j.o],L,⟨o0.view.Zbj L.Zbw,fun x hx=>⟨XB (o0.lt hx) L.Zbw.size,by have:=o0.lt hx;have:=P.hb;omega,fun hm=>by have:=P.hin x hm;have:=o0.lt hx;omega⟩⟩,fun _=>by rw[j.o],Xy _⟩
   ·have j:Xq (lV l p m (g.map Ex.xs) (c.map Ex.xs) s=(lG l s.Zbf p m (c.map Ex.xs),(c.map Ex.xs).take (c.length-(aM l s.Zbf).length))):=(by show _=_;rw[Y.o,r.o,F];rfl);have af:xE l s.Zbf=true:=(by rw[r.o,F]);clear Y r;(go_upto_region 7 with (go_at_call 159;refine(eW l[s.Zbf].Zby _ _ _ _ _ _ _ _).mono ?_;rintro e w5 ⟨rfl,Q⟩));obtain⟨y0,y1⟩:=V.o w5 (R.trans Q);have L:=PX.Zbj Q;clear m0 m1 m2 m3 m4 m5 m6 m7;go_wp2_with fail;refine(Nz y2 w5 a f b T S s.Zbf l i K p m hv hm g c H E L y af al).mono ?_;rintro e w6 ⟨am,A,rfl,N,P6,F6,ai,ag⟩;have ad:Xq _:=N;clear N;go_wp2;exact XG (v:=tuple #[slice A.hd.ao A.xs.length A.hd.cap,int i64 (lG l s.Zbf p m (c.map Ex.xs)).1]) (by simp[results,results238,go_sem]) rfl
     ⟨am,A,by rw[j.o],by rw[j.o];exact ad.o,P6,F6,fun hh=>by rw[j.o]at hh ⊢;rw[ai hh,Zba],ag⟩
 ·have az:decide ((s.Zbf:Int)<0)=false:=by simp
  by_cases w:s.Zbf<g.length
  ·have j:Xq (lV l p m (g.map Ex.xs) (c.map Ex.xs) s=((0,g[s.Zbf].xs),c.map Ex.xs)):=by
    show _=_;unfold lV;rw[hk,XA rfl,XZ,XA w,Xw];simp[w]
   have ap:(s.Zbf:Int)<g.length:=(by omega);have oS:aD W (H 0) (iK g):=t.ply.bag.ZbH 0;rcases oS.Zbu with ⟨_,h0,_⟩ | ⟨gs,an,es,-,av,-⟩
   ·have:g.length=0:=h0;omega
   have cs:=oS.cell es s.Zbf (Ae g[s.Zbf]) (wi g s.Zbf w);have M:=(t.ply.shs g[s.Zbf] (XM w)).1;rw[es]at p3;unfold Ae at cs;generalize g[s.Zbf]=u at *;clear p0 p1 p2 p4 oS es;go_enter func238,ntmps238;(go_upto_region 1 with fail);rw[HW.o];(go_upto_region 2 with fail);go_quiet (fail);(go_upto_region 4 with fail);go_quiet (fail);go_wp2;exact XG (v:=tuple #[slice u.hd.ao u.xs.length u.hd.cap,int i64 0]) (by simp[results,results238,go_sem]) rfl
    ⟨c,u,by rw[j.o],by rw[j.o],t.Zbj ((bH.drewN _).drewN _),M.Zbj ((bH.drewN _).drewN _),fun _=>by rw[j.o],Xy _⟩
  ·have j:Xq (lV l p m (g.map Ex.xs) (c.map Ex.xs) s=((5,[]),c.map Ex.xs)):=by
    show _=_;unfold lV;rw[hk,XA rfl,XZ,Xz w]
   clear p0 p1 p2 p4;go_enter func238,ntmps238;(go_upto_region 1 with fail);rw[HW.o];(go_upto_region 2 with fail);go_quiet (fail);go_wp2;exact XG (v:=tuple #[slice none 0 0,int i64 5]) (by simp[results,results238,go_sem]) rfl
    ⟨c,⟨⟨none,0⟩,[]⟩,by rw[j.o];rfl,by rw[j.o],t.Zbj (bH.drewN _),wj _ _ _,by rw[j.o];simp,Xy _⟩
end Go.Proofs.YtpdholcaobgofaaGreat
