import Derived.Test.YtnbhnocdhbcbcaaGreatG10
namespace Go.Proofs.YtnbhnocdhbcbcaaGreat
open Go.RowKit Tryz
open Value IntKind Ending
set_option maxHeartbeats 0
variable{H N:World}{l S I D s zt:Nat}{y6:List ByteArray}{y9 ya:List Nat}{yg:List Bool}{z4:Nat->List Nat}{y yr:Nat->Hd}{yf:List St}{yd:Hd}{i y2:List Ex}(y3:World)(m z5 z6 M v d:Nat)(b:List St)(f:List ByteArray)(L:List Bool)(y7:Hd)(zb:List ByteArray)(z7:Nat->Hd)(y8 o:Hd)(T:List Nat)(a:List ByteArray)(n:Nat)(x:World)(w:Nat)(y5:List (List ByteArray))
theorem CG(c:aC x o (bL T))(u:T.length<=1073741824) :
  Calls prog 281 #[slice o.ao T.length o.cap,int i64 n] x fun e v=>e=returned (bool (ja T n))/\v=x:=by
 obtain⟨w,r⟩:=o;rcases c.Wu with ⟨t,q,_⟩ | ⟨g,s,p,_⟩
 ·have j:T.length=0:=q;have m:T=[]:=Sw j;subst m;clear c q j u t;go_enter func281,ntmps281;go_wp2;refine Uh 1 ?_;rw[UD];go_wp2;go_ret;exact⟨rfl,rfl⟩
 ·simp only at p;subst p;go_enter func281,ntmps281;go_wp2
  go_loopg [5] T.length (fun g i wr=>∃k:Nat,k<=T.length/\g=T.length-k/\i=int i64 k/\Hid (ja T n=ja (T.drop k) n)/\wr=x)
  case atStart=>exact⟨0,by omega,by omega,rfl,rfl,rfl⟩
  case round =>
   obtain⟨k,A,z,rfl,d,rfl⟩:=hrel;by_cases a:k<T.length
   ·have y:=c.cell rfl k (int i64 T[k]) (l4 T k a);cases b:(T[k]==n)
    ·have f:Hid (ja T n=ja (T.drop (k+1)) n):=zi T n k a d.out b;have l:=(o8 T[k] n).trans b;clear d c b;go_wp2;go_roundg (T.length-(k+1))
     case measure=>omega
     case rel=>exact⟨k+1,by omega,rfl,by go_num,f,rfl⟩
    ·have f:Hid (ja T n=true):=Cs T n k a d.out b;have l:=(o8 T[k] n).trans b;clear d c b;go_wp2;go_ret;exact⟨aE f.out.symm,rfl⟩
   ·have f:Hid (ja T n=false):=zj T n k a d.out;clear d c;go_wp2;go_ret;exact⟨aE f.out.symm,rfl⟩
structure ym(w:World)(b rb ro g n tb:Nat):Prop where
 blk:∃arr t,w.heap[b]?=some (.cells arr t)/\arr[0]?=some (pointer (some ⟨rb,ro,none⟩))/\arr[1]?=some (slice (some ⟨g,0,none⟩) n n)/\arr[2]?=some (pointer (some ⟨tb,0,none⟩))
theorem ym.Wj(h:ym H l S I D s zt)(k:aa [] H N):ym N l S I D s zt:=by
 obtain⟨a,t,b,c⟩:=h.blk;exact⟨a,t,k.get b (by simp),c⟩
theorem ym.cells{g:Nat}(h:ym H l S I g D s):H.cell? ⟨l,0,none⟩=some (pointer (some ⟨S,I,none⟩))/\H.cell? ⟨l,1,none⟩=some (slice (some ⟨g,0,none⟩) D D)/\H.cell? ⟨l,2,none⟩=some (pointer (some ⟨s,0,none⟩)):=by
 obtain⟨b,t,a,c,d,e⟩:=h.blk;exact⟨(aj a 0).trans c,(aj a 1).trans d,(aj a 2).trans e⟩
def nV(vs:List ByteArray):List ByteArray->List Nat->List Nat
 | [],acc=>acc
 | x :: r,acc=>match mq vs x with
  | none=>nV vs r acc
  | some p=>if ja acc p=true then nV vs r acc else nV vs r (acc++[p])
def jI(vs xs:List ByteArray):List Nat:=nV vs xs []
theorem ON(a:w<zb.length):nV f (zb.drop w) T=match mq f zb[w] with
  | none=>nV f (zb.drop (w+1)) T
  | some p=>if ja T p=true then nV f (zb.drop (w+1)) T else nV f (zb.drop (w+1)) (T++[p]):=by
 rw[Sq a];rfl
theorem MJ(a:¬w<zb.length):nV f (zb.drop w) T=T:=by
 rw[Tv (by omega)];rfl
theorem CZ(d:List ByteArray)(b:List Nat)(h:∀p∈b,p<a.length):(∀p∈nV a d b,p<a.length)/\(nV a d b).length<=b.length+d.length:=by
 induction d generalizing b with
 | nil=>exact⟨h,by simp[nV]⟩
 | cons x r e =>
  rw[nV];split
  ·have:=e b h;exact⟨this.1,by simp;omega⟩
  ·next p g =>
   split
   ·have:=e b h;exact⟨this.1,by simp;omega⟩
   ·have:=e (b++[p]) (by intro q c;simp at c;rcases c with c | rfl;exact h q c;exact GZ g);exact⟨this.1,by have f:=this.2;simp at f ⊢;omega⟩
theorem KI{a:List ByteArray}(h:l∈jI y6 a):l<y6.length:=(CZ y6 a [] (by simp)).1 l h
theorem Ga:(jI zb a).length<=a.length:=by have:=(CZ zb a [] (by simp)).2;unfold jI;simpa using this
set_option maxRecDepth 100000
theorem xg(hp:ym x m z5 z6 M v d)(h:li x d f L y7 y8)(hl:f.length<=1073741824)(X:kI x o a)(Y:a.length<=1000000) :
  Calls prog 280 #[pointer (some ⟨m,0,none⟩),slice o.ao a.length o.cap] x fun e w'=>∃c:Hd,e=returned (slice c.ao (jI f a).length c.cap)/\aC w' c (bL (jI f a))/\(∀l,c.blk=some l->x.heap.size<=l)/\aa [] x w':=by
 obtain⟨i0,hi,Z,ac,ad⟩:=Sr zl;obtain⟨ao,af⟩:=o;rcases X with rfl | ⟨gv,O,ag,t,e1,e2,T,e4,e5⟩
 ·clear Y;go_enter func280,ntmps280;go_wp2;refine Uh 1 ?_;rw[UD];go_wp2;go_ret;exact⟨⟨none,0⟩,rfl,Sb _ _ _ _,by intro l s;simp[Hd.blk]at s,aa.refl _ _⟩
 simp only at e1 e4 e5;subst e1;obtain⟨R,HR⟩:∃R,Hid (R=jI f a):=⟨_,rfl⟩
 rw[<-HR.out];go_enter func280,ntmps280;go_wp2
 go_loopg [5,6] a.length (fun gk sv i wr=>∃(k:Nat) (c:Hd) (b:List Nat),k<=a.length/\gk=a.length-k/\i=int i64 k/\sv=slice c.ao b.length c.cap/\b.length<=k/\Hid (R=nV f (a.drop k) b)/\aC wr c (bL b)/\(∀l,c.blk=some l->x.heap.size<=l)/\aa [] x wr)
 case atStart=>exact⟨0,⟨none,0⟩,[],by omega,by omega,rfl,rfl,by simp,HR.out,Sb _ _ _ _,by intro l s;simp[Hd.blk]at s,aa.refl _ _⟩
 case round =>
  obtain⟨k,c,b,hk,hg,rfl,rfl,ai,w,J,I,E⟩:=hrel;have hr:=h.Wj E;obtain⟨p0,p1,p2⟩:=(hp.Wj E).cells;by_cases C:k<a.length
  ·have c2:wr.cell? ⟨gv,O+k,none⟩=some (string a[k]):=(aj (E.get e2 (by simp)) (O+k)).trans (T k a[k] (RQ C));have ap:(k:Int)<a.length:=(by omega);have q:Hid _:=w.out.trans (ON f a b k C);have n:Hid _:=(fun w1 (k1:aa [] wr w1)=>tM d f L y7 y8 a[k] w1 (hr.Wj k1) hl);clear w T p0 p1;generalize a[k]=y at *;rcases hpo:mq f y with _ | p
   ·have A:Hid (R=nV f (a.drop (k+1)) b):=(by show _=_;rw[q.out,hpo]);rw[hpo]at n;simp only[qe]at n;clear q;(go_upto_region 5 with fail);go_quiet ((go_at_call 261;exact Ss (n.out _ ((aa.refl [] _).drewN _))));go_wp2;go_roundg (a.length-(k+1))
    case measure=>omega
    case rel=>exact⟨k+1,c,b,by omega,rfl,by go_num,rfl,by omega,A.out,J.Wo (fun l s=>((aa.refl [] wr).drewN _).block l (J.lt s) (by simp)),I,E.drewN _⟩
   ·rw[hpo]at n;simp only[qe]at n;have an:(p:Int) ≥ 0:=by omega
    (go_upto_region 5 with fail);go_quiet ((go_at_call 261;exact Ss (n.out _ ((aa.refl [] _).drewN _))));obtain⟨P,z⟩:∃P,P=wr.drewN nq:=⟨_,rfl⟩
    rw[<-z];have r:aC P c (bL b):=by rw[z];exact J.Wo (fun l s=>((aa.refl [] wr).drewN _).block l (J.lt s) (by simp))
    have H:aa [] x P:=(by rw[z];exact E.drewN _);clear z;cases Q:ja b p
    ·have A:Hid (R=nV f (a.drop (k+1)) (b++[p])):=(by show _=_;rw[q.out,hpo];simp[Q]);have K:=r.Wo (fun l s=>((aa.refl [] P).alloc (.cells #[int i64 p] 3)).block l (r.lt s) (by simp));clear q;(go_upto_region 7 with (go_at_call 281;refine(CG c b p _ (by exact r) (by omega)).mono ?_;rintro e w7 ⟨rfl,D⟩;rw[D,Q]));go_wp2_with (at_builtin;refine aO _ rfl (.tmp 31) (.tmp 33) 24 rfl i0 (int i64 0) 8 c (bL b) underlying24 hi Z ac ad rfl So rfl (by exact K) ⟨_,0,none⟩ 1 1 [int i64 p] rfl rfl ?d1 ?d2 So ?d3 ?d4 ?_)
     case d1=>intro j u S;match j,S with | 0,S=>simp at S;subst S;simp[Addr.add]
     case d2=>intro u hu;simp at hu;subst hu;rfl
     case d3=>simp only[bL];unfold maxLen;omega
     case d4=>simp only[bL];omega
     intro U F w5 N B g;rw[m9 b p]at N;have G:=H.alloc (.cells #[int i64 p] 3);have W:=G.grown B I;have al:x.heap.size<=U:=by
      rcases g with e | e
      ·exact I U e
      ·have:=G.size;simp at e this;omega
     have V:Hid ((bL b).n+1=(b++[p]).length):=(by show _=_;simp[bL]);rw[V.out];clear B g K;go_wp2;go_roundg (a.length-(k+1))
     case measure=>omega
     case rel=>exact⟨k+1,⟨some ⟨U,0,none⟩,F⟩,b++[p],by omega,rfl,by go_num,rfl,by simp;omega,A.out,N,by intro l s;simp[Hd.blk]at s;omega,W⟩
    ·have A:Hid (R=nV f (a.drop (k+1)) b):=(by show _=_;rw[q.out,hpo];simp[Q]);clear q;go_wp2_with (go_at_call 281;refine(CG c b p _ (by exact r) (by omega)).mono ?_;rintro e w7 ⟨rfl,D⟩;rw[D,Q]);go_roundg (a.length-(k+1))
     case measure=>omega
     case rel=>exact⟨k+1,c,b,by omega,rfl,by go_num,rfl,by omega,A.out,r,I,H⟩
  ·have A:Hid (b=R):=(w.out.trans (MJ f a b k C)).symm;clear w T;go_wp2;go_ret;exact⟨c,by rw[<-A.out];rfl,by rw[<-A.out];exact J,I,E⟩
def vG(side:Nat)(ms:List Bool)(ones others:List Nat):Bool:=ones.all (fun i=>others.all (fun j=>fk side ms i j))
theorem NS{side:Nat}{ms:List Bool}(a:n<y9.length)(b:w<ya.length)(h:fk side ms y9[n] ya[w]=false):vG side ms y9 ya=false:=by
 cases e:vG side ms y9 ya
 ·rfl
 ·unfold vG at e;rw[Tb]at e;have:=e _ (Sj a);rw[Tb]at this;rw[this _ (Sj b)]at h;cases h
theorem Lj(h:∀i j (a:i<y9.length) (b:j<ya.length),fk l yg y9[i] ya[j]=true):vG l yg y9 ya=true:=by
 unfold vG;rw[Tb];intro x c;rw[Tb];intro y d;obtain⟨i,a,rfl⟩:=Tg c;obtain⟨j,b,rfl⟩:=Tg d;exact h i j a b
set_option maxRecDepth 512
theorem Ab(z:Hd)(b a:List Nat)(w:World)(hp:ym w m z5 z6 M v d)(h:li w d f L y7 y8)(P:L.length=f.length*f.length)(Q:f.length<=10000)(T:aC w o (bL b))(U:aC w z (bL a))(a1:b.length<=1000000)(a2:a.length<=1000000)(A:∀x∈b,x<f.length)(B:∀x∈a,x<f.length) :
  Calls prog 278 #[pointer (some ⟨m,0,none⟩),slice o.ao b.length o.cap,slice z.ao a.length z.cap] w fun e w'=>e=returned (bool (vG f.length L b a))/\∃u,w'=w.drewN u:=by
 go_enter func278,ntmps278;go_wp2
 go_loopg [7] b.length (fun gk i wr=>∃(k u:Nat),k<=b.length/\gk=b.length-k/\i=int i64 k/\Hid (∀i j (n:i<b.length) (C:j<a.length),i<k->fk f.length L b[i] a[j]=true)/\Hid (wr=w.drewN u))
 case atStart=>exact⟨0,0,by omega,by omega,rfl,fun i j n C h=>by omega,rfl⟩
 case round =>
  obtain⟨k,u,hk,hg,rfl,c,E⟩:=hrel;by_cases t:k<b.length
  ·go_wp2_with fail
   go_loopg [8] a.length (fun N i2 V=>∃(j S:Nat),j<=a.length/\N=a.length-j/\i2=int i64 j/\Hid (∀i (n:i<a.length),i<j->fk f.length L b[k] a[i]=true)/\Hid (V=w.drewN S))
   case atStart=>exact⟨0,u,by omega,by omega,rfl,fun i n h=>by omega,E⟩
   case round =>
    obtain⟨j,S,C,ax,rfl,g,l⟩:=hrel;by_cases s:j<a.length
    ·have K:aa [] w wr:=(by rw[l.out];exact(aa.refl [] _).drewN _);have hA:=h.Wj K;obtain⟨p0,p1,p2⟩:=(hp.Wj K).cells;rcases T.Wu with ⟨_,O,_⟩ | ⟨ga,ca,G,ag,H,ai,-⟩
     ·have:b.length=0:=O;omega
     rcases U.Wu with ⟨_,O,_⟩ | ⟨gb,cb,I,al,J,an,-⟩
     ·have:a.length=0:=O;omega
     have d1:wr.cell? ⟨ga,k,none⟩=some (int i64 b[k]):=(T.Wo (fun x R=>K.block x (T.lt R) (by simp))).cell G k (int i64 b[k]) (l4 b k t);have d2:wr.cell? ⟨gb,j,none⟩=some (int i64 a[j]):=(U.Wo (fun x R=>K.block x (U.lt R) (by simp))).cell I j (int i64 a[j]) (l4 a j s);have ap:b.length<=o.cap:=H;have ar:a.length<=z.cap:=J;have az:(k:Int)<b.length:=(by omega);have aS:(j:Int)<a.length:=(by omega);have x1:=A _ (Sj t);have x2:=B _ (Sj s);have q:Hid _:=NS (side:=f.length) (ms:=L) k j t s;have r:Hid (fk f.length L b[k] a[j]=true->∀i (n:i<a.length),i<j+1->fk f.length L b[k] a[i]=true):=by
      intro hh i n aT;by_cases e:i=j
      ·subst e;exact hh
      ·exact g.out i n (by omega)
     have W:=fun nq=>yR d f L y7 y8 b[k] a[j] (wr.drewN nq) (hA.Wj ((aa.refl [] _).drewN nq)) P Q x1 x2;obtain⟨ad,Z⟩:=o;obtain⟨af,ac⟩:=z;simp only at G I;subst G;subst I;clear g hA p0 p1;generalize b[k]=X at *;generalize a[j]=Y at *;have p:Hid _:=W;clear W;cases F:fk f.length L X Y
     ·have y:Hid _:=q.out F;rw[F]at p;clear q r c;(go_upto_region 7 with fail);go_quiet ((go_at_call 216;exact Ss (p.out _)));go_wp2;go_ret;exact⟨aE y.out.symm,_,by rw[l.out];exact Vf _ _ _⟩
     ·have y:Hid _:=r.out F;rw[F]at p;clear q r;(go_upto_region 7 with fail);go_quiet ((go_at_call 216;exact Ss (p.out _)));go_wp2;go_roundg (a.length-(j+1))
      case measure=>omega
      case rel=>exact⟨j+1,_,by omega,rfl,by go_num,y.out,by show _=_;rw[l.out];exact Vf _ _ _⟩
    ·have HN:Hid (∀i j (n:i<b.length) (C:j<a.length),i<k+1->fk f.length L b[i] a[j]=true):=by
      intro i j' n D a0;by_cases e:i=k
      ·subst e;exact g.out j' D (by omega)
      ·exact c.out i j' n D (by omega)
     clear g c;go_wp2;go_roundg (b.length-(k+1))
     case measure=>omega
     case rel=>exact⟨k+1,S,by omega,rfl,by go_num,HN,l⟩
  ·have y:Hid (vG f.length L b a=true):=Lj (fun i j n C=>c.out i j n C (by omega));clear c;go_wp2;go_ret;exact⟨aE y.out.symm,u,E.out⟩
structure iQ(w:World)(g N:Nat)(F:Nat->List Nat)(K:Nat->Hd):Prop where
 arr:∃arr,w.heap[g]?=some (.cells arr 24)/\arr.size=N/\∀n,n<N->arr[n]?=some (slice (K n).ao (F n).length (K n).cap)
 own:∀n,n<N->aC w (K n) (bL (F n))
 off:∀n,n<N->(K n).blk≠some g
theorem iQ.Wj(h:iQ H l S z4 y)(q:aa [] H N):iQ N l S z4 y:=by
 obtain⟨a,c,d,e⟩:=h.arr;exact⟨⟨a,q.get c (by simp),d,e⟩,fun n b=>(h.own n b).Wo (fun x f=>q.block x ((h.own n b).lt f) (by simp)),h.off⟩
theorem iQ.cell(h:iQ H l S z4 y)(n:Nat)(d:n<S):H.cell? ⟨l,n,none⟩=some (slice (y n).ao (z4 n).length (y n).cap):=by
 obtain⟨a,b,e,c⟩:=h.arr;rw[aj b];exact c n d
theorem iQ.free(h:iQ H l S z4 y)(n:Nat):H.frozen? ⟨l,n,none⟩=false:=by
 obtain⟨a,b,c,d⟩:=h.arr;exact am b n
theorem iQ.lt(h:iQ H l S z4 y):l<H.heap.size:=by
 obtain⟨a,b,c,d⟩:=h.arr;exact ae b
def FV(F:Nat->List Nat)(k:Nat)(v:List Nat):Nat->List Nat:=fun n=>if n=k then v else F n
theorem iQ.store{k:Nat}(h:iQ H l S z4 y)(v:List Nat)(c:Hd)(o:aC H c (bL v))(f:c.blk≠some l) :
  iQ (H.setCell ⟨l,k,none⟩ (slice c.ao v.length c.cap)) l S (FV z4 k v) (ip y k c):=by
 obtain⟨g,i,e,j⟩:=h.arr;refine⟨⟨_,ah i _ _,by simpa using e,?_⟩,?_,?_⟩
 ·intro n b;by_cases a:n=k
  ·subst a;rw[dw];simp[e,b,FV]
  ·rw[bX _ _ _ _ a];rw[Vk (by omega)];simp only[FV,if_neg a];exact j n b
 ·intro n b;by_cases a:n=k
  ·subst a;rw[dw];simp only[FV,if_pos];exact o.Wo (fun x d=>Sg _ _ _ _ (by rintro rfl;exact f d))
  ·rw[bX _ _ _ _ a];simp only[FV,if_neg a];exact(h.own n b).Wo (fun x d=>Sg _ _ _ _ (by rintro rfl;exact h.off n b d))
 ·intro n b;by_cases a:n=k
  ·subst a;rw[dw];exact f
  ·rw[bX _ _ _ _ a];exact h.off n b
def j8(vs:List ByteArray)(bs:List (List ByteArray))(k n:Nat):List Nat:=if n<k then jI vs (bs.getD n []) else []
theorem iQ.congr{c:Nat->List Nat}(h:iQ H l S z4 y)(e:∀n,n<S->z4 n=c n):iQ H l S c y:=by
 obtain⟨b,d,f,g⟩:=h.arr;exact⟨⟨b,d,f,fun n a=>by rw[<-e n a];exact g n a⟩,fun n a=>by rw[<-e n a];exact h.own n a,h.off⟩
set_option maxRecDepth 100000
theorem F7(a:List Ex)(w:World)(hp:ym w m z5 z6 M v d)(h:li w d f L y7 y8)(ad:f.length<=10000)(z:aC w o (gQ a))(Y:a.length<=10000)(y:∀e∈a,kI w e.hd e.xs/\e.xs.length<=10000) :
  Calls prog 277 #[pointer (some ⟨m,0,none⟩),slice o.ao a.length o.cap] w fun e Q=>∃(I:Nat) (K:Nat->Hd),e=returned (slice (some ⟨I,0,none⟩) a.length a.length)/\iQ Q I a.length (j8 f (a.map Ex.xs) a.length) K/\aa [] w Q:=by
 obtain⟨i0,hi,B,C,D⟩:=Sr Pu;have O:=fun w=>dH (P:=prog) w 181 24 i0 _ underlying181 hi B a.length 1 C (by rw[D];omega) (by omega);obtain⟨n,c⟩:∃n,n=madeCells (slice none 0 0).cells (a.length*1):=⟨_,rfl⟩
 rw[<-c]at O;have F:Hid (iQ (w.alloc (.cells n 24)) w.heap.size a.length (j8 f (a.map Ex.xs) 0) nt):=by
  refine⟨⟨n,R2 _ _,by rw[c,TO];omega,?_⟩,?_,fun v _ e=>by simp[nt,Hd.blk]at e⟩
  ·intro v J;have e:j8 f (a.map Ex.xs) 0 v=[]:=(by unfold j8;rw[RU (by omega)]);rw[e,c];exact AL _ _ _ (by omega)
  ·intro v J;have e:j8 f (a.map Ex.xs) 0 v=[]:=(by unfold j8;rw[RU (by omega)]);rw[e];exact Sb _ _ _ _
 clear c;go_enter func277,ntmps277;go_wp2
 go_loopg [6] a.length (fun gk i wr=>∃(k:Nat) (K:Nat->Hd),k<=a.length/\gk=a.length-k/\i=int i64 k/\iQ wr w.heap.size a.length (j8 f (a.map Ex.xs) k) K/\aa [] w wr)
 case atStart=>exact⟨0,nt,by omega,by omega,rfl,F.out,(aa.refl _ _).alloc _⟩
 case round =>
  obtain⟨k,K,hk,hg,rfl,t,j⟩:=hrel;clear F O;by_cases b:k<a.length
  ·rcases z.Wu with ⟨_,W,_⟩ | ⟨gb,G,r,-,s,-⟩
   ·have:a.length=0:=W;omega
   have l:aC wr o (gQ a):=z.Wo (fun x hx=>j.block x (z.lt hx) (by simp));have U:=l.cell r k (wN a[k]) (tn a k b);have Z:a.length<=o.cap:=s;obtain⟨A,af⟩:=y a[k] (Sj b);have R:=xg m z5 z6 M v d f L y7 y8 a[k].hd a[k].xs wr (hp.Wj j) (h.Wj j) (by omega) (A.Wj j) (by omega);have q:Hid (∀v,v<a.length->FV (j8 f (a.map Ex.xs) k) k (jI f a[k].xs) v=j8 f (a.map Ex.xs) (k+1) v):=by
    intro v J;unfold FV j8;by_cases e:v=k
    ·subst e;simp[b]
    ·rw[RU e];by_cases H:v<k
     ·rw[RY H,RY (by omega)]
     ·rw[RU H,RU (by omega)]
   unfold wN at U;obtain⟨ao,T⟩:=o;simp only at r;subst r;have ac:=t.lt;clear l;generalize a[k]=V at *;go_wp2_with fail;refine R.mono ?_;rintro e w2 ⟨hd,rfl,o2,n2,N⟩;have g:=t.Wj N;have c2:=g.cell k b;have f2:=g.free;have S:Hid _:=((g.store (k:=k) (jI f V.xs) hd o2 (fun e=>by have:=n2 _ e;omega)).congr q.out);have X:=j.size;have u:=(j.trans N);have p:Hid (∀E,aa [] w (w2.setCell ⟨w.heap.size,k,none⟩ E)):=fun E=>u.setCell (RZ (RV _)) E;go_wp2;go_roundg (a.length-(k+1))
   case measure=>omega
   case rel=>exact⟨k+1,_,by omega,rfl,by go_num,S.out,p.out _⟩
  ·have e:k=a.length:=(by omega);subst e;go_wp2;go_ret;exact⟨_,K,rfl,t,j⟩
def pD(l:List St)(a:Nat)(S:List ByteArray×List (List ByteArray))(vs:List ByteArray)(ms:List Bool)(i j:Nat):Bool :=
 !(fk S.1.length (gq l a S.1) i j)||vG vs.length ms (jI vs (S.2.getD i [])) (jI vs (S.2.getD j []))
def xe(l:List St)(a:Nat)(S:List ByteArray×List (List ByteArray))(vs:List ByteArray)(ms:List Bool):Bool :=
 decide (∀i,i<S.1.length->∀j,j<S.1.length->i<j->pD l a S vs ms i j=true)
theorem xf(l:List St)(HR:Nat->Hd)(b:List ByteArray)(p:List Bool)(hv hm:Hd)(f:List ByteArray)(a:List Ex)(H:Nat->Hd)(z:World)(hp:ym z m z5 z6 M v d)(h:li z d b p hv hm)(ax:p.length=b.length*b.length)(af:b.length<=10000)(hr:f9 z z5 z6 l HR)(ok:lu l)(L:mF z w f a H)(N:f.length<=10000)(ag:∀e∈a,e.xs.length<=10000) :
  Calls prog 274 #[pointer (some ⟨m,0,none⟩),int i64 n,pointer (some ⟨w,0,none⟩)] z fun e G=>e=returned (bool (xe l n (f,a.map Ex.xs) b p))/\aa [] z G:=by
 obtain⟨p0,p1,p2⟩:=hp.cells;obtain⟨s0,s1⟩:=L.cells;have D:Hid (a.length=f.length):=L.len;have ap:a.length<=10000:=by rw[D.out];exact N
 obtain⟨R,U⟩:∃R,Hid (R=xe l n (f,a.map Ex.xs) b p):=⟨_,rfl⟩
 rw[<-U.out];have S:∀r,aa [] z r->aC r (H 0) (aG f):=fun r F=>(L.Wj F).bag.own 0;have T:∀r,aa [] z r->aC r (H 1) (gQ a):=fun r F=>(L.Wj F).bag.own 1;have O:Hid _:=fun r (F:aa [] z r)=>Ll z5 z6 n l HR (H 0) f r (hr.Wj F) ok (S r F) N;have HC:Hid (∀G,aa [] z.drew G->G.cell? ⟨m,0,none⟩=some (pointer (some ⟨z5,z6,none⟩))/\G.cell? ⟨w,0,none⟩=some (slice (H 0).ao f.length (H 0).cap)):=by
  intro G k;exact⟨(hp.Wj ((aa.refl [] z).drew.trans k)).cells.1,(L.Wj ((aa.refl [] z).drew.trans k)).cells.1⟩
 have a6:=L.bag.lt;go_enter func274,ntmps274;go_upto_region 1 with fail
 go_region_held3 (fun G=>G.cell? ⟨m,0,none⟩=some (pointer (some ⟨z5,z6,none⟩))/\G.cell? ⟨w,0,none⟩=some (slice (H 0).ao f.length (H 0).cap)) (go_keep) (first | (go_at_call 210;refine(O.out _ (by exact(aa.refl [] _).drew)).mono ?_;rintro e r ⟨aT,aS,ar,rfl,A2,-,-,F⟩;obtain⟨x0,x1⟩:=HC.out r F));have V:=(aa.refl [] z).drew.trans F;have ad:=L.Wj V;obtain⟨y0,y1⟩:=ad.cells;have WI:=F7 m z5 z6 M v d b p hv hm (H 1) a r (hp.Wj V) (h.Wj V) af (T r V) ap (fun e he=>⟨(ad.exs e he).view,ag e he⟩);have ac:=mm l n f l.length;go_wp2_with fail;refine WI.mono ?_;rintro e w2 ⟨g2,K,rfl,G2,k2⟩;have ai:=A2.Wj k2;have K2:=V.trans k2;have az:=hp.Wj K2;have J:=h.Wj K2;have HT:Hid (R=true ↔ ∀i,i<a.length->∀j,j<a.length->i<j->pD l n (f,a.map Ex.xs) b p i j=true):=by
  show _ ↔ _;rw[U.out,D.out];unfold xe;rw[decide_eq_true_iff]
 have P:Hid (∀v,∀x∈j8 b (a.map Ex.xs) a.length v,x<b.length):=by
  intro v x hx;unfold j8 at hx;split at hx
  ·exact KI hx
  ·cases hx
 have Q:Hid (∀v,v<a.length->(j8 b (a.map Ex.xs) a.length v).length<=10000):=by
  intro v hn;unfold j8;rw[RY hn];refine Sc (Ga _ _) ?_;rw[RT];simp[hn];exact ag _ (Sj hn)
 have al:Hid (∀i j,i<a.length->j<a.length->pD l n (f,a.map Ex.xs) b p i j=(!(fk f.length (gq l n f) i j)||vG b.length p (j8 b (a.map Ex.xs) a.length i) (j8 b (a.map Ex.xs) a.length j))):=by
  intro i j hi hj;unfold pD j8;rw[RY hi,RY hj]
 clear WI S T O HC y0 y1 p0 p1 p2 s0 s1 x0 x1;go_wp2
 go_loopg [9] a.length (fun gk iv wr=>∃(i:Nat),i<=a.length/\gk=a.length-i/\iv=int i64 i/\Hid (∀y,y<i->∀c,c<a.length->y<c->pD l n (f,a.map Ex.xs) b p y c=true)/\aa [] w2 wr)
 case atStart=>exact⟨0,by omega,by omega,rfl,fun y a2=>by omega,aa.refl _ _⟩
 case round =>
  obtain⟨i,hi,hg,rfl,o,hK⟩:=hrel;by_cases u:i<a.length
  ·go_wp2_with fail
   go_loopg [10] (a.length-(i+1)) (fun an jv a0=>∃(j:Nat),i+1<=j/\j<=a.length/\an=a.length-j/\jv=int i64 j/\Hid (∀c,i<c->c<j->pD l n (f,a.map Ex.xs) b p i c=true)/\aa [] w2 a0)
   case atStart=>exact⟨i+1,by omega,by omega,by omega,by go_num,fun c h1 J=>by omega,hK⟩
   case round =>
    obtain⟨j,a4,hj,a1,rfl,s,g⟩:=hrel;clear hK;by_cases t:j<a.length
    ·have hA:=ai.Wj g;have W:=G2.Wj g;have d1:=W.cell i u;have d2:=W.cell j t;have q1:=Q.out i u;have q2:=Q.out j t;have a3:(i:Int)<a.length:=(by omega);have a5:(j:Int)<a.length:=(by omega);have AP:=fun nq=>yR aT f (gq l n f) aS ar i j (wr.drewN nq) (hA.Wj ((aa.refl [] _).drewN nq)) ac N (by rw[<-D.out];exact u) (by rw[<-D.out];exact t);have AR:=fun nq=>Ab m z5 z6 M v d b p hv hm (K i) (K j) (j8 b (a.map Ex.xs) a.length i) (j8 b (a.map Ex.xs) a.length j) (wr.drewN nq) ((az.Wj g).Wj ((aa.refl [] _).drewN nq)) ((J.Wj g).Wj ((aa.refl [] _).drewN nq)) ax af ((W.Wj ((aa.refl [] _).drewN nq)).own i u) ((W.Wj ((aa.refl [] _).drewN nq)).own j t) (by omega) (by omega) (P.out i) (P.out j);have q:Hid _:=al.out i j u t;have B:Hid (pD l n (f,a.map Ex.xs) b p i j=true->∀c,i<c->c<j+1->pD l n (f,a.map Ex.xs) b p i c=true):=by
      intro hh c h1 J;by_cases e:c=j
      ·subst e;exact hh
      ·exact s.out c h1 (by omega)
     have E:Hid (pD l n (f,a.map Ex.xs) b p i j=false->R=false):=by
      intro hh;cases e:R
      ·rfl
      ·have:=HT.out.1 e i u j t (by omega);rw[this]at hh;cases hh
     have A:Hid _:=AP;have C:Hid _:=AR;clear AP AR o s W hA;generalize j8 b (a.map Ex.xs) a.length i=X at *;generalize j8 b (a.map Ex.xs) a.length j=Y at *;cases Z:fk f.length (gq l n f) i j
     ·have I:Hid _:=B.out (by rw[q.out,Z];rfl);rw[Z]at A;clear E B;(go_upto_region 9 with fail);go_quiet (first | (go_at_call 216;exact Ss (A.out _)));go_wp2;go_roundg (a.length-(j+1))
      case measure=>omega
      case rel=>exact⟨j+1,by omega,by omega,rfl,by go_num,I.out,g.drewN _⟩
     ·rw[Z]at A;cases hc:vG b.length p X Y
      ·have I:Hid _:=E.out (by rw[q.out,Z,hc];rfl);rw[hc]at C;clear E B;(go_upto_region 9 with fail);go_quiet (first | (go_at_call 216;exact Ss (A.out _)) | (go_at_call 278;exact VI (C.out _)));go_wp2;go_ret;exact⟨aE I.out.symm,K2.trans (g.drewN _)⟩
      ·have I:Hid _:=B.out (by rw[q.out,Z,hc];rfl);rw[hc]at C;clear E B;(go_upto_region 9 with fail);go_quiet (first | (go_at_call 216;exact Ss (A.out _)) | (go_at_call 278;exact VI (C.out _)));go_wp2;go_roundg (a.length-(j+1))
       case measure=>omega
       case rel=>exact⟨j+1,by omega,by omega,rfl,by go_num,I.out,g.drewN _⟩
    ·have HN:Hid (∀y,y<i+1->∀c,c<a.length->y<c->pD l n (f,a.map Ex.xs) b p y c=true):=by
      intro y h1 c J h3;by_cases e:y=i
      ·subst e;exact s.out c h3 (by omega)
      ·exact o.out y (by omega) c J h3
     clear s o;go_wp2;go_roundg (a.length-(i+1))
     case measure=>omega
     case rel=>exact⟨i+1,by omega,rfl,by go_num,HN,g⟩
  ·have I:Hid (R=true):=HT.out.2 (fun y h1 c J h3=>o.out y (by omega) c J h3);clear o;go_wp2;go_ret;exact⟨aE I.out.symm,K2.trans hK⟩
def ve(l:List St)(a n:Nat):Option ByteArray:=match l[n]? with
 | some s=>if(s.kind==2)=true/\fg l n a=true then some (aL s) else none
 | none=>none
def pJ(l:List St)(a k:Nat):List ByteArray:=(List.range k).filterMap (ve l a)
def rd(l:List St)(a:Nat):List ByteArray:=pJ l a l.length
theorem Lm(h:w<b.length)(a:(b[w].kind==2)=true)(c:fg b w n=true):pJ b n (w+1)=pJ b n w++[aL b[w]]:=by
 unfold pJ;rw[Ty,UT];simp[ve,h,a,c]
theorem NT(h:w<b.length)(a:(b[w].kind==2)=false∨fg b w n=false):pJ b n (w+1)=pJ b n w:=by
 unfold pJ;rw[Ty,UT];have:ve b n w=none:=by
  unfold ve;rw[RQ h];simp only;rw[RU];rintro ⟨c,d⟩;rcases a with a | a
  ·rw[a]at c;cases c
  ·rw[a]at d;cases d
 simp[this]
theorem BD:(pJ b n w).length<=w:=by
 have:=VU (ve b n) (List.range w);unfold pJ;simpa using this
theorem qZ(h:f9 x M v b z7)(ok:lu b) :
  Calls prog 209 #[pointer (some ⟨M,v,none⟩),int i64 d] x fun e w'=>∃c:Hd,e=returned (slice c.ao (rd b d).length c.cap)/\aC w' c (aG (rd b d))/\(∀l,c.blk=some l->x.heap.size<=l)/\aa [] x w':=by
 obtain⟨i0,hi,U,V,W⟩:=Sr lA;have Y:=ok.len;go_enter func209,ntmps209;go_wp2
 go_loopg [5,6] b.length (fun gk sv i wr=>∃(k:Nat) (c:Hd),k<=b.length/\gk=b.length-k/\i=int i64 k/\sv=slice c.ao (pJ b d k).length c.cap/\aC wr c (aG (pJ b d k))/\(∀l,c.blk=some l->x.heap.size<=l)/\aa [] x wr)
 case atStart=>exact⟨0,⟨none,0⟩,by omega,by omega,rfl,rfl,Sb _ _ _ _,by intro l z;simp[Hd.blk]at z,aa.refl _ _⟩
 case round =>
  obtain⟨k,c,hk,hg,rfl,rfl,R,C,P⟩:=hrel;have J:=h.Wj P;have ac:=BD b d k;by_cases f:k<b.length
  ·have af:=ok.syms k f;have F:Hid _:=Lm b d k f;have g:Hid _:=NT b d k f;have L:=pq b[k] (z7 (10+2*k)) (z7 (11+2*k));unfold fL at L;have K:Hid _:=L;clear L;(go_upto_region 6 with (first | (go_at_call 81;refine(fe M v b z7 _ (by exact J)).mono ?_;rintro e wc ⟨rfl,w⟩;rw[w]) | (go_at_call 98;refine(bG M v k b z7 _ (by exact J) f).mono ?_;rintro e w3 ⟨rfl,T⟩;unfold fL)));obtain⟨G,o⟩:∃G,G=w3.alloc (.cells #[int i64 b[k].kind,string b[k].label,slice (z7 (10+2*k)).ao b[k].We.length (z7 (10+2*k)).cap,slice (z7 (11+2*k)).ao b[k].Wp.length (z7 (11+2*k)).cap,string b[k].fin.file,int i64 b[k].fin.line,int i64 b[k].fin.col,int i64 b[k].til] 158):=⟨_,rfl⟩
   have s:aa [] wr G:=(by rw[o];exact T.alloc _);have B4:=fY o.symm;rw[<-o];clear o;obtain⟨u0,u1,u2,u3,u4,u5,u6,u7⟩:=vI B4;have t:=J.Wj s;have m:aC G c (aG (pJ b d k)):=R.Wo (fun l z=>s.block l (R.lt z) (by simp));have S:=(t.Wv.syms k b[k] (RQ f)).view;have r:=P.trans s;cases X:(b[k].kind==2)
   ·have p:Hid _:=g.out (R4 X);clear F g;go_wp2;go_roundg (b.length-(k+1))
    case measure=>omega
    case rel=>exact⟨k+1,c,by omega,rfl,by go_num,by rw[p.out],by rw[p.out];exact m,C,r⟩
   ·cases H:fg b k d
    ·have p:Hid _:=g.out (RZ H);clear F g;go_wp2_with (go_at_call 188;refine(hZ M v k d b z7 _ (by exact t) f).mono ?_;rintro e wd ⟨rfl,y⟩;rw[y,H]);go_roundg (b.length-(k+1))
     case measure=>omega
     case rel=>exact⟨k+1,c,by omega,rfl,by go_num,by rw[p.out],by rw[p.out];exact m,C,r⟩
    ·have p:Hid _:=F.out X H;clear F g;go_wp2_with (first | (go_at_call 188;refine(hZ M v k d b z7 _ (by exact t) f).mono ?_;rintro e wd ⟨rfl,y⟩;rw[y,H]) | (go_at_call 190;refine(K.out _ (by exact S) (by omega)).mono ?_;rintro e w5 ⟨rfl,k5⟩;have D:=m.Wo (fun l z=>(k5.alloc (.cells #[string (aL b[k])] 9)).block l (m.lt z) (by simp))) | (at_builtin;refine aO _ rfl (.tmp 26) (.tmp 29) 61 rfl i0 (string ⟨#[]⟩) 16 c (aG (pJ b d k)) underlying61 hi U V W rfl So rfl (by exact D) ⟨_,0,none⟩ 1 1 [string (aL b[k])] rfl rfl ?d1 ?d2 So ?d3 ?d4 ?_))
     case d1=>intro j u I;match j,I with | 0,I=>simp at I;subst I;simp[Addr.add]
     case d2=>intro u Z;simp at Z;subst Z;rfl
     case d3=>simp only[aG];unfold maxLen;omega
     case d4=>simp only[aG];omega
     intro N A w6 E q a;rw[fj (pJ b d k) (aL b[k]),<-p.out]at E;have B:=(r.trans k5).alloc (.cells #[string (aL b[k])] 9);have Q:=B.grown q C;have ad:x.heap.size<=N:=by
      rcases a with e | e
      ·exact C N e
      ·have:=B.size;simp at e this;omega
     have O:Hid ((aG (pJ b d k)).n+1=(pJ b d (k+1)).length):=(by show _=_;rw[p.out];simp[aG]);rw[O.out];clear q a D;go_wp2;go_roundg (b.length-(k+1))
     case measure=>omega
     case rel=>exact⟨k+1,⟨some ⟨N,0,none⟩,A⟩,by omega,rfl,by go_num,rfl,E,by intro l z;simp[Hd.blk]at z;omega,Q⟩
  ·have e:k=b.length:=(by omega);subst e;go_wp2_with (go_at_call 81;refine(fe M v b z7 _ (by exact J)).mono ?_;rintro e wc ⟨rfl,w⟩;rw[w]);go_ret;exact⟨c,rfl,R,C,P⟩
def zI:St:=⟨0,⟨#[]⟩,[],[],⟨⟨#[]⟩,0,0⟩,0⟩
abbrev NP:=List ByteArray×List (List ByteArray)
def jQ(l:List St):List Nat->List (List ByteArray)->NP->Int×NP
 | h :: hs,e :: es,S=>if((lK (l.getD h zI) e S).1==0)=true then jQ l hs es (lK (l.getD h zI) e S).2 else lK (l.getD h zI) e S
 | _,_,S=>(0,S)
def pN(l:List St)(n:Nat)(vs:List ByteArray)(ms:List Bool)(sy:List ByteArray)(R:Int×NP):Int×List ByteArray :=
 if(R.1==0)=true then(if xe l n R.2 vs ms=true then(0,mt R.2.1 R.2.2 sy) else(9,[])) else(R.1,[])
def gj(l:List St)(n:Nat)(vs:List ByteArray)(ms:List Bool)(th:List (List ByteArray)):Int×List ByteArray :=
 if th.length<(aN l n).length then(6,[])
 else pN l n vs ms (l.getD n zI).We (jQ l (aN l n) (th.drop (th.length-(aN l n).length)) ([],[]))
theorem At(h:w<b.length):b.getD w zI=b[w]:=by rw[RT,RQ h];rfl
theorem IV(S:NP)(i:Nat)(a:i<T.length)(c:i<y5.length)(d:T[i]<b.length) :
  jQ b (T.drop i) (y5.drop i) S=if((lK b[T[i]] y5[i] S).1==0)=true then jQ b (T.drop (i+1)) (y5.drop (i+1)) (lK b[T[i]] y5[i] S).2 else lK b[T[i]] y5[i] S:=by
 rw[Sq a,Sq c,jQ,At b _ d]
theorem Ey(S:NP)(i:Nat)(a:¬i<T.length):jQ b (T.drop i) y5 S=(0,S):=by
 rw[Tv (by omega)];cases y5 <;> rfl
structure Le(S:NP)(N:Nat):Prop where
 one:S.1.length<=N
 two:∀y∈S.2,y.length<=10000
theorem N7(s:St)(e:List ByteArray)(S:NP)(N:Nat)(h:Le S N)(b:e.length<=10000):Le (lK s e S).2 (N+1):=by
 have c:=h.one;unfold lK;split
 ·split <;> exact⟨by simp only;omega,h.two⟩
 ·split
  ·exact⟨by simp only;omega,h.two⟩
  ·next x r =>
   split
   ·refine⟨by simp;omega,fun y a=>?_⟩;simp at a;rcases a with a | rfl
    ·exact h.two y a
    ·simp at b;omega
   ·exact⟨by simp only;omega,h.two⟩
theorem Jd(k:Nat):∀x∈eu b w k,x<k:=by
 induction k with
 | zero=>intro x a;simp[eu]at a
 | succ k c =>
  intro x a;cases h:np b (g9 b w) w k
  ·rw[uy b w k h]at a;have:=c x a;omega
  ·rw[xb b w k h]at a;simp at a;rcases a with a | rfl
   ·have:=c x a;omega
   ·omega
theorem Cw(h:S∈aN yf l):S<yf.length:=Jd yf l yf.length S h
theorem aC.cutE(o:aC H yd (gQ i))(c:Nat)(w:c<=i.length):aC H yd (gQ (i.take c)):=by
 have e:(i.take c).length=c:=by simp;omega
 refine⟨by simp[gQ,Cg],?_⟩;rcases o.2 with ⟨f,u⟩ | ⟨g,a,b,f,r,s,l,n,p,q⟩
 ·left
  have:i.length=0:=u;have t:i=[]:=Sw this;subst t;simp[gQ]at f ⊢;exact f
 ·right
  have m:i.length<=a:=l;refine⟨g,a,b,?_,r,s,?_,n,p,?_⟩
  ·injection f with j v k
   simp only[gQ];rw[j,k]
  ·show(i.take c).length<=a
   omega
  ·show b.toList.take ((i.take c).length*1)=Cg (i.take c);have d:b.toList.take (i.length*1)=Cg i:=q;rw[e];unfold Cg at d ⊢;rw[Vq,<-d,VF];congr 1;omega
def pE(sh th:List Ex):Nat->eB
 | 0=>gQ sh
 | 1=>gQ th
 | _+2=>gQ []
def iw(rb ro g n tb:Nat)(sh th:List Ex)(H:Nat->Hd):List Value :=
 [pointer (some ⟨rb,ro,none⟩),slice (some ⟨g,0,none⟩) n n,pointer (some ⟨tb,0,none⟩),slice (H 0).ao sh.length (H 0).cap,slice (H 1).ao th.length (H 1).cap]
structure uZ(w:World)(b rb ro g n tb:Nat)(sh th:List Ex)(H:Nat->Hd):Prop where
 bag:bi w b 307 (iw rb ro g n tb sh th H) (pE sh th) H
 shs:∀e∈sh,rG w b H e.hd e.xs/\e.xs.length<=32
 ths:∀e∈th,rG w b H e.hd e.xs/\e.xs.length<=32
theorem uZ.Wj(h:uZ H l S I D s zt i y2 y)(k:aa [] H N):uZ N l S I D s zt i y2 y :=
 ⟨h.bag.Wj k,fun e a=>⟨(h.shs e a).1.Wj k,(h.shs e a).2⟩,fun e a=>⟨(h.ths e a).1.Wj k,(h.ths e a).2⟩⟩
theorem uZ.ctx(h:uZ H l S I D s zt i y2 y):ym H l S I D s zt:=⟨_,_,h.bag.blk,rfl,rfl,rfl⟩
theorem uZ.cells{g:Nat}(h:uZ H l S I g D s i y2 y) :
  H.cell? ⟨l,3,none⟩=some (slice (y 0).ao i.length (y 0).cap)/\H.cell? ⟨l,4,none⟩=some (slice (y 1).ao y2.length (y 1).cap):=⟨h.bag.cell 3,h.bag.cell 4⟩
structure DZ(w:World)(rb ro g tb:Nat)(l:List St)(HR K:Nat->Hd)(vs:List ByteArray)(ms:List Bool)(hv hm:Hd):Prop where
 recd:f9 w rb ro l HR
 ok:lu l
 all:il w g l l.length K
 ap:li w tb vs ms hv hm
 hml:ms.length=vs.length*vs.length
 hvl:vs.length<=10000
theorem DZ.Wj{a:Hd}(h:DZ H l S I D yf y yr y6 yg yd a)(k:aa [] H N):DZ N l S I D yf y yr y6 yg yd a :=
 ⟨h.recd.Wj k,h.ok,h.all.Wj k,h.ap.Wj k,h.hml,h.hvl⟩
structure mE(w0 w:World)(b rb ro g n tb:Nat)(sh th:List Ex)(H:Nat->Hd):Prop where
 ply:uZ w b rb ro g n tb sh th H
 kept:aa [] w0 w
 hb:w0.heap.size<=b
 hin:∀x,gO H x->w0.heap.size<=x
theorem mE.Wj{a:World}(h:mE H N l S I D s zt i y2 y)(k:aa [] N a):mE H a l S I D s zt i y2 y :=
 ⟨h.ply.Wj k,h.kept.trans k,h.hb,h.hin⟩
section
attribute [local go_sem] wR
theorem rG.turned(f:rG H l y yd y6)(t:aB l H y N yr):rG N l yr yd y6:=by
 refine⟨f.view.keptP t.1 (fun x c=>?_),fun x c=>?_⟩
 ·obtain⟨_,a,b⟩:=f.far x c;rintro (e | e)
  ·exact a e
  ·exact b e
 ·obtain⟨d,a,b⟩:=f.far x c;exact⟨R6 d t.1.size,a,t.fresh x d b⟩
theorem bi.reset{b:List Value}{a rows':Nat->eB}(h:bi H l S b a y)(c:Nat)(u:Value)(o:∀i,aC H (y i) (rows' i)) :
  bi (H.setCell ⟨l,c,none⟩ u) l S (b.set c u) rows' y/\aB l H y (H.setCell ⟨l,c,none⟩ u) y:=by
 obtain⟨d,e⟩:=h.set c u;refine⟨⟨d.blk,fun i=>(o i).Wo (fun k f=>Sg _ _ _ _ ?_),h.apart,h.off⟩,e⟩;rintro rfl;exact h.off i f
theorem tp:rG y3 d z7 ⟨none,0⟩ []:=⟨R4 rfl,fun x a=>by simp[Hd.blk]at a⟩
theorem yS(u y g N a:Nat)(l:List St)(HR K:Nat->Hd)(I:List ByteArray)(F:List Bool)(hv hm:Hd)(G b:List Ex)(H:Nat->Hd)(E:DZ y3 u y g N l HR K I F hv hm)(P:mE y3 x w u y g l.length N G b H)(hn:a<l.length)(hA:ni l a=true)(cu:b.length<=2000000) :
  Calls prog 262 #[pointer (some ⟨w,0,none⟩),int i64 a] x fun e t=>∃(a0:List Ex) (A:Ex),
   e=returned (tuple #[slice A.hd.ao A.xs.length A.hd.cap,int i64 (gj l a I F (b.map Ex.xs)).1])/\A.xs=(gj l a I F (b.map Ex.xs)).2/\mE y3 t w u y g l.length N G a0 H/\rG t w H A.hd A.xs /\
   (((gj l a I F (b.map Ex.xs)).1==0)=true->a0=b.take (b.length-(aN l a).length))/\a0.length<=b.length:=by
 have Ew:=E.Wj P.kept;have b5:=E.ok.len;obtain⟨p0,p1,p2⟩:=P.ply.ctx.cells;obtain⟨p3,p4⟩:=P.ply.cells;have bl:mb l l.length a=aN l a:=by unfold mb;rw[RY ⟨hn,hA⟩]
 have ca:=Ew.all.cell a hn;have oa:=Ew.all.own a hn;rw[bl]at ca oa;obtain⟨AO,a2⟩:∃AO,Hid ((K a).ao=AO):=⟨_,rfl⟩
 rw[a2.out]at ca;have cs:(aN l a).length<=l.length:=oU l a l.length;have bj:∀i (hi:i<(aN l a).length),(aN l a)[i]<l.length:=fun i hi=>Cw (Sj hi);have cq:(a:Int)<l.length:=by omega
 have b4:¬(a:Int) ≥ l.length:=by omega
 clear bl p2 p3;by_cases hu:b.length<(aN l a).length
 ·have HF:Hid (gj l a I F (b.map Ex.xs)=(6,[])):=by show _=_;unfold gj;rw[Sn,RY hu]
  have b6:(b.length:Int)-(aN l a).length<0:=by omega
  go_enter func262,ntmps262;go_wp2;exact Sa (v:=tuple #[slice none 0 0,int i64 6]) (by simp[results,results262,go_sem]) rfl
   ⟨b,⟨⟨none,0⟩,[]⟩,by rw[HF.out];rfl,by rw[HF.out],P,tp _ _ _,by rw[HF.out];simp,RV _⟩
 ·obtain⟨f,hf⟩:∃f,b.length-(aN l a).length=f:=⟨_,rfl⟩
  have co:(b.length:Int)-(aN l a).length=(f:Int):=by omega
  have ck:¬(f:Int)<0:=by omega
  obtain⟨RR,a5⟩:∃RR,Hid (RR=jQ l (aN l a) ((b.map Ex.xs).drop f) ([],[])):=⟨_,rfl⟩
  have HF:Hid (gj l a I F (b.map Ex.xs)=pN l a I F l[a].We RR):=by
   show _=_;unfold gj;rw[Sn,RU hu,At l a hn,hf,a5.out]
  rw[hf];have bg:f+(aN l a).length=b.length:=by omega
  have a3:Hid _:=bg;clear hf bg;obtain⟨W,hW⟩:∃W,W=x.alloc (.cells #[slice none 0 0,slice none 0 0] 343):=⟨_,rfl⟩
  have kW:=fN hW.symm;have SI:mF W x.heap.size [] [] nt:=by
   rw[hW];refine⟨⟨R2 _ _,?_,fun i j _=>R4 rfl,fun i e=>by simp[nt,Hd.blk]at e⟩,rfl,by simp⟩;intro i
   match i with
   | 0=>exact Sb _ _ _ _
   | 1=>exact Sb _ _ _ _
   | m+2=>exact Sb _ _ _ _
  have HW:Hid _:=hW.symm;clear hW;go_enter func262,ntmps262;go_upto_region 8 with fail
  rw[HW.out];have PW:=P.Wj kW;clear HW p0 p1 p4 ca;go_wp2
  go_loopg [9] (aN l a).length (fun gk iv wr=>∃(i:Nat) (S:NP) (r:List Ex) (Z:Nat->Hd),i<=(aN l a).length/\gk=(aN l a).length-i/\iv=int i64 i/\Le S i/\r.map Ex.xs=S.2/\Hid (RR=jQ l ((aN l a).drop i) (((b.map Ex.xs).drop f).drop i) S)/\mF wr x.heap.size S.1 r Z/\(∀c,gO Z c->x.heap.size<=c)/\(∀e∈r,e.hd.blk≠some w)/\aa [] x wr)
  case atStart=>exact⟨0,([],[]),[],nt,by omega,by omega,rfl,⟨by simp,by simp⟩,rfl,a5.out,SI,fun c d=>by obtain⟨i,hi⟩:=d;simp[nt,Hd.blk]at hi,by simp,kW⟩
  case round =>
   obtain⟨i,S,r,Z,hi,hg,rfl,B,ad,hR,hS,T,ax,hK⟩:=hrel;by_cases V:i<(aN l a).length
   ·obtain⟨z,S2⟩:=S;simp only at ad;subst ad;have Pr:=P.Wj hK;have aS:f+i<b.length:=by have:=a3.out;omega
    have oT:aC wr (H 1) (gQ b):=Pr.ply.bag.own 1;rcases oT.Wu with ⟨_,h0,_⟩ | ⟨M,ba,et,-,ar,-⟩
    ·have:b.length=0:=h0;omega
    have oH:aC wr (K a) (bL (aN l a)):=oa.Wo (fun c d=>hK.block c (oa.lt d) (by simp));rcases oH.Wu with ⟨_,h0,_⟩ | ⟨gh,bT,eh,-,bo,-⟩
    ·have:(aN l a).length=0:=h0;omega
    have ch:=oH.cell eh i (int i64 (aN l a)[i]) (l4 _ i V);have ct:=oT.cell et (f+i) (wN b[f+i]) (tn b (f+i) aS);obtain rfl:AO=some ⟨gh,0,none⟩:=a2.out.symm.trans eh;have bd:b.length<=(H 1).cap:=ar;have b0:(aN l a).length<=(K a).cap:=bo;have s:=(P.ply.ths b[f+i] (Sj aS));have af:=bj i V;have L:Hid _:=(hR.out.trans (IV l (aN l a) ((b.map Ex.xs).drop f) (z,r.map Ex.xs) i V (by simp;omega) af));have e1:((b.map Ex.xs).drop f)[i]'(by simp;omega)=b[f+i].xs:=(by simp);rw[e1]at L;have a1:=N7 l[(aN l a)[i]] b[f+i].xs (z,r.map Ex.xs) i B (by omega);have FT:=fun(w3:World) (C:aa [] wr w3)=>N8 x.heap.size z r Z l[(aN l a)[i]] (HR (10+2*(aN l a)[i])) (HR (11+2*(aN l a)[i])) b[f+i].hd b[f+i].xs w3 (hS.Wj C) (by have:=B.one;simp only at this;omega) (fun e n=>B.two _ (U6 n)) ((((E.Wj (Pr.kept.trans C)).recd.Wv.syms _ l[(aN l a)[i]] (RQ af)).view)) (E.ok.syms _ af) ⟨(s.1.Wj (hK.trans C)).view,fun c d=>⟨R6 (s.1.far c d).1 (hK.trans C).size,by have:=(s.1.far c d).1;omega,fun hm=>by have:=T c hm;have:=(s.1.far c d).1;omega⟩⟩ (by omega);have ST:=fun(w3:World) (C:aa [] wr w3)=>bG u y (aN l a)[i] l HR w3 (E.Wj (Pr.kept.trans C)).recd af;have p4:=Pr.ply.cells.2;have p0:=Pr.ply.ctx.cells.1;rw[et]at p4;have R:Hid (∀t,aa [] x t->t.cell? ⟨w,0,none⟩=some (pointer (some ⟨u,y,none⟩))/\t.cell? ⟨gh,i,none⟩=some (int i64 (aN l a)[i])/\t.cell? ⟨w,4,none⟩=some (slice (some ⟨M,0,none⟩) b.length (H 1).cap)/\t.cell? ⟨M,f+i,none⟩=some (wN b[f+i])):=by
     intro t k;have P':=P.Wj k;refine⟨P'.ply.ctx.cells.1,(oa.Wo (fun c d=>k.block c (oa.lt d) (by simp))).cell eh i _ (l4 _ i V),?_,(P'.ply.bag.own 1).cell et (f+i) (wN b[f+i]) (tn b (f+i) aS)⟩;rw[<-et];exact P'.ply.cells.2
    have a4:Hid (∀c,(c=x.heap.size∨gO Z c)->x.heap.size<=c):=by
     rintro c (e | e)
     ·omega
     ·exact T c e
    have O:Hid _:=FT;have a6:Hid _:=ST;have cb:IntKind.i64.wrap ((f:Int)+i)=(f:Int)+i:=(by rw[TE];omega);have b1:(0:Int)<=(f:Int)+i:=(by omega);have b2:(f:Int)+i<b.length:=(by omega);have cx:((f:Int)+i).toNat=f+i:=(by omega);have az:=s.1.far;clear FT ST hR e1 oT oH s et eh;unfold wN at ct R;generalize b[f+i]=A at *;generalize (aN l a)[i]=aT at *;generalize lK l[aT] A.xs (z,r.map Ex.xs)=Q at *;obtain⟨q,S9⟩:=Q;simp only at L a1 O;have bv:A.hd.blk≠some w:=fun e=>(az w e).2.1 rfl;cases hq:(q==0)
    ·have bw:(q != 0)=true:=(by simp[bne,hq]);have D:Hid (gj l a I F (b.map Ex.xs)=(q,[])):=(by show _=_;rw[HF.out,L.out,RU (by rw[hq];simp)];simp[pN,hq]);clear L;(go_upto_region 11 with fail);go_region_held3 (fun t=>t.cell? ⟨w,0,none⟩=some (pointer (some ⟨u,y,none⟩))/\t.cell? ⟨gh,i,none⟩=some (int i64 aT)/\t.cell? ⟨w,4,none⟩=some (slice (some ⟨M,0,none⟩) b.length (H 1).cap)/\t.cell? ⟨M,f+i,none⟩=some (slice A.hd.ao A.xs.length A.hd.cap)) (go_keep) (first | (go_at_call 98;refine(a6.out _ (by exact(aa.refl [] _).drew)).mono ?_;rintro e w3 ⟨rfl,C⟩;obtain⟨x0,x1,x2,x3⟩:=R.out w3 (hK.drew.trans C)) | (go_at_call 273;refine(O.out _ (by exact(aa.refl [] _).drew.trans C)).mono ?_;rintro e w9 ⟨an,H9,rfl,a7,ag,T9,Y⟩;have K9:=(hK.drew.trans C).ofP T9.1 a4.out;obtain⟨z0,z1,z2,z3⟩:=R.out w9 K9))
     all_goals
      clear z0 z1 z2 z3 x0 x1 x2 x3;go_wp2;exact Sa (v:=tuple #[slice none 0 0,int i64 q]) (by simp[results,results262,go_sem]) rfl
       ⟨b,⟨⟨none,0⟩,[]⟩,by rw[D.out];rfl,by rw[D.out],P.Wj K9,tp _ _ _,fun hh=>by rw[D.out]at hh;exact absurd (hq.symm.trans hh) (by simp),RV _⟩
    ·have bw:(q != 0)=false:=(by simp[bne,hq]);have D:Hid (RR=jQ l ((aN l a).drop (i+1)) (((b.map Ex.xs).drop f).drop (i+1)) S9):=(by show _=_;rw[L.out,RY hq]);clear L;(go_upto_region 11 with fail);go_region_held3 (fun t=>t.cell? ⟨w,0,none⟩=some (pointer (some ⟨u,y,none⟩))/\t.cell? ⟨gh,i,none⟩=some (int i64 aT)/\t.cell? ⟨w,4,none⟩=some (slice (some ⟨M,0,none⟩) b.length (H 1).cap)/\t.cell? ⟨M,f+i,none⟩=some (slice A.hd.ao A.xs.length A.hd.cap)) (go_keep) (first | (go_at_call 98;refine(a6.out _ (by exact(aa.refl [] _).drew)).mono ?_;rintro e w3 ⟨rfl,C⟩;obtain⟨x0,x1,x2,x3⟩:=R.out w3 (hK.drew.trans C)) | (go_at_call 273;refine(O.out _ (by exact(aa.refl [] _).drew.trans C)).mono ?_;rintro e w9 ⟨an,H9,rfl,a7,ag,T9,Y⟩;have K9:=(hK.drew.trans C).ofP T9.1 a4.out;obtain⟨z0,z1,z2,z3⟩:=R.out w9 K9))
     all_goals
      have bp:∀c,gO H9 c->x.heap.size<=c:=fun c d=>by
       rcases T9.2 c d with e | e
       ·exact T c e
       ·exact Sc (hK.drew.trans C).size e
      have br:∀e∈an,e.hd.blk≠some w:=fun e n=>by
       rcases Y e n with q | q
       ·exact ax e q
       ·rw[q];exact bv
      clear z0 z1 z2 z3 x0 x1 x2 x3;go_wp2;go_roundg ((aN l a).length-(i+1))
      case measure=>omega
      case rel=>exact⟨i+1,S9,an,H9,by omega,rfl,by go_num,a1,ag,D.out,a7,bp,br,K9⟩
   ·obtain⟨z,S2⟩:=S;simp only at ad;subst ad;have ac:Hid (gj l a I F (b.map Ex.xs)=pN l a I F l[a].We (0,(z,r.map Ex.xs))):=by
     show _=_;rw[HF.out,hR.out,Ey _ _ _ _ _ V]
    have Pr:=P.Wj hK;have Er:=E.Wj Pr.kept;have bx:=B.one;simp only at bx;have KA:=xf w u y g l.length N a x.heap.size l HR I F hv hm z r Z wr Pr.ply.ctx Er.ap E.hml E.hvl Er.recd E.ok hS (by omega) (fun e n=>B.two _ (U6 n));clear hR;cases hk:xe l a (z,r.map Ex.xs) I F
    ·have D:Hid (gj l a I F (b.map Ex.xs)=(9,[])):=(by show _=_;rw[ac.out];simp[pN,hk]);rw[hk]at KA;clear ac;(go_upto_region 15 with (go_at_call 274;refine KA.mono ?_;rintro e J ⟨rfl,k2⟩));go_wp2;exact Sa (v:=tuple #[slice none 0 0,int i64 9]) (by simp[results,results262,go_sem]) rfl
      ⟨b,⟨⟨none,0⟩,[]⟩,by rw[D.out];rfl,by rw[D.out],Pr.Wj k2,tp _ _ _,by rw[D.out];simp,RV _⟩
    ·have D:Hid (gj l a I F (b.map Ex.xs)=(0,mt z (r.map Ex.xs) l[a].We)):=(by show _=_;rw[ac.out];simp[pN,hk]);rw[hk]at KA;clear ac;(go_upto_region 16 with (go_at_call 274;refine KA.mono ?_;rintro e J ⟨rfl,k2⟩));have p:=Pr.Wj k2;have o:=hS.Wj k2;have p4:=p.ply.cells.2;have y4:=p.ply.bag.free;have cj:=p.ply.bag.lt;have oT:aC J (H 1) (gQ b):=p.ply.bag.own 1;have ai:f<=b.length:=(by have:=a3.out;omega);have b3:(f:Int)<=b.length:=(by omega);have cf:x.heap.size > w:=P.ply.bag.lt;rcases oT.Wu with ⟨e0,h0,-⟩ | ⟨M,ba,et,-,ar,-⟩
     ·have bc:b.length=0:=h0;have bf:f=0:=(by omega);have al:Hid (slice none 0 0=slice (H 1).ao (b.take f).length (H 1).cap):=(by show _=_;rw[e0,bf];rfl);have cc:Hid _:=e0;rw[e0,bc]at p4;have cp:(f:Int)=0:=(by omega);clear e0 h0 bc;(go_upto_region 17 with fail);have D5:Hid (bi (J.setCell ⟨w,4,none⟩ (slice none 0 0)) w 307 (iw u y g l.length N G (b.take f) H) (pE G (b.take f)) H/\aB w J H (J.setCell ⟨w,4,none⟩ (slice none 0 0)) H):=by
       have q:=p.ply.bag.reset (rows':=pE G (b.take f)) 4 (slice none 0 0) (by
        intro j
        match j with
        | 0=>exact p.ply.bag.own 0
        | 1=>exact oT.cutE f ai
        | m+2=>exact p.ply.bag.own (m+2))
       have e:(iw u y g l.length N G b H).set 4 (slice none 0 0)=iw u y g l.length N G (b.take f) H:=by
        simp only[iw,List.set_cons_succ,List.set_cons_zero];rw[al.out]
       rw[e]at q;exact q
      generalize hX:J.setCell ⟨w,4,none⟩ (slice none 0 0)=X at D5 ⊢;have kX:aa [] y3 X:=by rw[<-hX];exact p.kept.setCell (RZ P.hb) _
      have PX:mE y3 X w u y g l.length N G (b.take f) H:=⟨⟨D5.out.1,fun e n=>⟨(p.ply.shs e n).1.turned D5.out.2,(p.ply.shs e n).2⟩,fun e n=>⟨(p.ply.ths e (Ud n)).1.turned D5.out.2,(p.ply.ths e (Ud n)).2⟩⟩,kX,P.hb,P.hin⟩;have kb:fy (fun c=>c=w) J X:=(by rw[<-hX];exact(fy.refl (fun c=>c=w) J).setCell (R4 (show w=w from rfl)) _);have SX:mF X x.heap.size z r Z:=⟨o.bag.keptP kb (by omega) (fun c d=>by have:=T c d;omega),o.len,fun e n=>⟨(o.exs e n).view.keptP kb (fun c d e2=>ax e n (e2 ▸ d)),(o.exs e n).adr,fun c d=>⟨R6 ((o.exs e n).far c d).1 kb.size,((o.exs e n).far c d).2⟩⟩⟩;have p0:=PX.ply.ctx.cells.1;have bs:=PX.ply.bag.lt;have U:=fun c (d:gO H c)=>PX.ply.bag.inlt d;have bk:=E.ok.syms a hn;have EX:=E.Wj kX;clear hX p4 y4 KA;go_wp2_with (first | (go_at_call 98;refine(bG u y a l HR _ (by exact EX.recd) hn).mono ?_;rintro e w6 ⟨rfl,k6⟩;unfold fL) | (go_at_call 275;refine(qm x.heap.size z r Z (HR (10+2*a)) l[a].We _ (by exact SX.Wj k6) (by omega) (fun e n=>B.two _ (U6 n)) (((EX.Wj k6).recd.Wv.syms a l[a] (RQ hn)).view) (by omega)).mono ?_;rintro e w7 ⟨hd,rfl,o7,n7,k7⟩));have bz:=k6.size;exact Sa (v:=tuple #[slice hd.ao (mt z (r.map Ex.xs) l[a].We).length hd.cap,int i64 0]) (by simp[results,results262,go_sem]) rfl
       ⟨b.take f,⟨hd,mt z (r.map Ex.xs) l[a].We⟩,by rw[D.out],by rw[D.out],PX.Wj (k6.trans k7),⟨o7.view,fun c d=>⟨o7.lt d,by have:=n7 c d;omega,fun hm=>by have:=n7 c d;have:=U c hm;omega⟩⟩,fun _=>rfl,by simp;omega⟩
     ·have al:Hid (slice (some ⟨M,0,none⟩) f (H 1).cap=slice (H 1).ao (b.take f).length (H 1).cap):=(by show _=_;rw[et];simp;omega);have bd:b.length<=(H 1).cap:=ar;have cl:(f:Int)<=(H 1).cap:=(by omega);rw[et]at p4;clear et;(go_upto_region 17 with fail);have D5:Hid (bi (J.setCell ⟨w,4,none⟩ (slice (some ⟨M,0,none⟩) f (H 1).cap)) w 307 (iw u y g l.length N G (b.take f) H) (pE G (b.take f)) H/\aB w J H (J.setCell ⟨w,4,none⟩ (slice (some ⟨M,0,none⟩) f (H 1).cap)) H):=by
       have q:=p.ply.bag.reset (rows':=pE G (b.take f)) 4 (slice (some ⟨M,0,none⟩) f (H 1).cap) (by
        intro j
        match j with
        | 0=>exact p.ply.bag.own 0
        | 1=>exact oT.cutE f ai
        | m+2=>exact p.ply.bag.own (m+2))
       have e:(iw u y g l.length N G b H).set 4 (slice (some ⟨M,0,none⟩) f (H 1).cap)=iw u y g l.length N G (b.take f) H:=by
        simp only[iw,List.set_cons_succ,List.set_cons_zero];rw[al.out]
       rw[e]at q;exact q
      generalize hX:J.setCell ⟨w,4,none⟩ (slice (some ⟨M,0,none⟩) f (H 1).cap)=X at D5 ⊢;have kX:aa [] y3 X:=by rw[<-hX];exact p.kept.setCell (RZ P.hb) _
      have PX:mE y3 X w u y g l.length N G (b.take f) H:=⟨⟨D5.out.1,fun e n=>⟨(p.ply.shs e n).1.turned D5.out.2,(p.ply.shs e n).2⟩,fun e n=>⟨(p.ply.ths e (Ud n)).1.turned D5.out.2,(p.ply.ths e (Ud n)).2⟩⟩,kX,P.hb,P.hin⟩;have kb:fy (fun c=>c=w) J X:=(by rw[<-hX];exact(fy.refl (fun c=>c=w) J).setCell (R4 (show w=w from rfl)) _);have SX:mF X x.heap.size z r Z:=⟨o.bag.keptP kb (by omega) (fun c d=>by have:=T c d;omega),o.len,fun e n=>⟨(o.exs e n).view.keptP kb (fun c d e2=>ax e n (e2 ▸ d)),(o.exs e n).adr,fun c d=>⟨R6 ((o.exs e n).far c d).1 kb.size,((o.exs e n).far c d).2⟩⟩⟩;have p0:=PX.ply.ctx.cells.1;have bs:=PX.ply.bag.lt;have U:=fun c (d:gO H c)=>PX.ply.bag.inlt d;have bk:=E.ok.syms a hn;have EX:=E.Wj kX;clear hX p4 y4 KA;go_wp2_with (first | (go_at_call 98;refine(bG u y a l HR _ (by exact EX.recd) hn).mono ?_;rintro e w6 ⟨rfl,k6⟩;unfold fL) | (go_at_call 275;refine(qm x.heap.size z r Z (HR (10+2*a)) l[a].We _ (by exact SX.Wj k6) (by omega) (fun e n=>B.two _ (U6 n)) (((EX.Wj k6).recd.Wv.syms a l[a] (RQ hn)).view) (by omega)).mono ?_;rintro e w7 ⟨hd,rfl,o7,n7,k7⟩));have bz:=k6.size;exact Sa (v:=tuple #[slice hd.ao (mt z (r.map Ex.xs) l[a].We).length hd.cap,int i64 0]) (by simp[results,results262,go_sem]) rfl
       ⟨b.take f,⟨hd,mt z (r.map Ex.xs) l[a].We⟩,by rw[D.out],by rw[D.out],PX.Wj (k6.trans k7),⟨o7.view,fun c d=>⟨o7.lt d,by have:=n7 c d;omega,fun hm=>by have:=n7 c d;have:=U c hm;omega⟩⟩,fun _=>rfl,by simp;omega⟩
end
end Go.Proofs.YtnbhnocdhbcbcaaGreat
