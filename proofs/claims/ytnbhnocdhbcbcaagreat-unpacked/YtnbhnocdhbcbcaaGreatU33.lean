import Derived.Test.YtnbhnocdhbcbcaaGreatU32
namespace Go.Proofs.YtnbhnocdhbcbcaaGreat
open Go.RowKit Tryz
open Value IntKind Ending
set_option maxHeartbeats 0
variable{H D:World}{T y i z5:Nat}{d z6:Nat×Nat->It}{k:Mc}{v t:Hd}{M:Option Nat}{zt:Xu}{u:List Int}{g:Int}{I:Xt}{y0:Ending}(z0:Xu)(b S:Nat)(x:Nat×Nat->It)(w:Mc)(m s L:Int)(c:World)(N:Hd)
theorem cJ.loads(a:cJ H T d k y)(O:y<=1073741824){x m o n e t q c b:Nat}{u f:Fs}{z D:Option Nat}(V:oV H d k i x m u v t q c b M)(K:k.L[z5]?=some (z,D,f))(w:o+n+e<=f.length) :
  Calls prog 14 #[pointer (some ⟨x,0,none⟩),pointer (some ⟨m,0,none⟩),slice (wa z) f.length f.length,int i64 o,int i64 n,int i64 e] H fun r N=>Fi H x m v t q c b (na (dR ((f.drop o).take n)) M) (j8 u ((f.drop o).take n)) r N:=by
 obtain⟨A,-,j,J⟩:=a.l z5 z D f K;have B:=a.sep.all (8,z5);rw[A]at B;cases z with
 | none =>
  have s:=jx.nil B rfl;subst s;have E:o=0:=by simp at w;omega
  have F:n=0:=by simp at w;omega
  have G:e=0:=by simp at w;omega
  subst E F G;exact F7 x m u v t q c b M H V.p V.d V.far
 | some g =>
  have I:g∉x :: iW t q:=by have:=a.sep.far (8,z5) (6,i) (bG (by decide)) g (by rw[A];exact Uq.2 rfl);rw[V.i6]at this;exact this
  have C:g∉m :: (v.Yv.toList++iW c b):=by have:=a.sep.far (8,z5) (7,i) (bG (by decide)) g (by rw[A];exact Uq.2 rfl);rw[V.i7]at this;exact this
  exact DQ x m g o n e u f v t q c b M H V.p V.d (jx.Yv B g rfl) V.far (fun e=>I (by rw[e];exact UN)) (fun e=>C (by rw[e];exact UN)) (fun e=>C (UM _ (Vc _ (by rw[e];simp)))) w (by omega) j
set_option maxRecDepth 100000
theorem Te(A t:Xs)(D:World)(h:cJ D b x w S)(hV:w.V.length≠0)(hA:rx m)(hC:rx s)(hN:S<=1073741824) :
  Calls prog 10 #[pointer (some ⟨b,0,none⟩),agg #[int i64 8,int i64 m,int i64 s,int i64 L,string A,string t]] D fun e u=>jo b x w S true e u:=by
 obtain⟨W,HW⟩:=bm (D.alloc (.cells #[int i64 8,int i64 m,int i64 s,int i64 L,string A,string t] 28));obtain⟨hM,hB,ap,-⟩:=h.boxed 8 m s L A t W HW.o;obtain⟨T,U,o2,o3,o4,o5,X⟩:=dx hB;have HL:Xr _:=(l9 b S x w 8 m s L A t W hM (by omega));have HS:Xr (iw W b D.heap.size x w S 8 m s L A t):=⟨hM,hB⟩;have an:=h.len.1;have J:Xr (∀c,Calls prog 13 #[int i64 m,int i64 w.V.length] c fun e u=>e=returned (int i64 (fA m w.V.length:Nat))/\u=c):=fun c=>fJ m w.V.length c hA ⟨by omega,by omega⟩;have P:=hZ m w.V.length (by omega);obtain⟨i,Hi⟩:=bm (fA m w.V.length);rw[Hi.o]at J P;have al:((w.V.length:Int)==0)=false:=Uz.2 (by omega);have ax:(i:Int)<(w.V.length:Int):=by omega
 clear h hM hB;go_enter func10,ntmps10;go_upto_region 1 with fail
 rw[HW.o];go_upto_region 2 with (go_at_call 12;refine Ug HL.o ?_;rintro e w1 ⟨rfl,k1⟩)
 have z:Xr (iw w1 b D.heap.size x w S 8 m s L A t):=HS.o.Yh k1;clear T U o2 o3 o4 o5 X k1;obtain⟨T,U,-⟩:=dx z.o.o;have X:=aj z.o.o;have Z:w1.cell? ⟨b,0,none⟩=some (slice w.hx.ao w.V.length w.hx.cap):=by rw[ah z.o.m.Yv];rfl
 go_upto_region 4 with fail
 go_quiet ((go_at_call 13;exact UD (J.o _)));go_upto_region 5 with fail
 obtain⟨E,M⟩:=bm (w1.drewN nq);rw[M.o];have d:Xr (iw E b D.heap.size x w S 8 m s L A t):=z.o.Yh (by rw[<-M.o];exact bM.drewN nq);clear T U X Z;obtain⟨T,U,o2,o3,o4,o5,X⟩:=dx d.o.o;obtain⟨Y,af,fs,hd,lo,hi,R,O,st,g1,g2,C,⟨e1,z1,d1⟩,e2,z2,d2⟩:=d.o.m.ver P;have Z:E.cell? ⟨b,0,none⟩=some (slice w.hx.ao w.V.length w.hx.cap):=by rw[ah d.o.m.Yv];rfl
 have c1:E.cell? ⟨b,1,none⟩=some (slice w.hm.ao w.V.length w.hm.cap):=by rw[ah d.o.m.Yv];rfl
 rw[e1]at Z;rw[e2]at c1;have ad:Xr _:=C;have c3:E.cell? ⟨b,3,none⟩=some (slice w.hl.ao w.L.length w.hl.cap):=by rw[ah d.o.m.Yv];rfl
 by_cases hL:w.L.length=0
 ·rw[hL]at c3;clear C e1 e2;go_wp2;go_ret;exact⟨rfl,_,_,d.o.m.more,sG.refl _ _⟩
 ·have ai:=d.o.m.len.2.2;have K:Xr (∀c,Calls prog 13 #[int i64 s,int i64 w.L.length] c fun e u=>e=returned (int i64 (fA s w.L.length:Nat))/\u=c):=fun c=>fJ s w.L.length c hC ⟨by omega,by omega⟩;have Q:=hZ s w.L.length (by omega);obtain⟨k,Hk⟩:=bm (fA s w.L.length);rw[Hk.o]at K Q;obtain⟨⟨la,lc,g⟩,hk⟩:∃Y,w.L[k]?=some Y:=⟨w.L[k],Ub Q⟩
  obtain⟨-,-,-,ar⟩:=d.o.m.l k la lc g hk;obtain⟨gl,N,gz,gc⟩:=pt d.o.m.ownL (k:=k) (x:=(la,g)) (by rw[UL,hk];rfl);replace gc:E.cell? ⟨gl,k,none⟩=some (slice (wa la) g.length g.length):=gc;rw[N]at c3;have az:(k:Int)<(w.L.length:Int):=by omega
  have ag:((w.L.length:Int)==0)=false:=Uz.2 (by omega);obtain⟨ra,rn,re⟩:=d.o.m.rng;have G:Xr (∀c,Calls prog 13 #[int i64 w.a,int i64 ((g.length:Int)+1)] c fun e u=>e=returned (int i64 (fA w.a (g.length+1):Nat))/\u=c):=fun c=>fJ w.a (g.length+1) c ra ⟨by omega,by omega⟩;have ho:=hZ w.a (g.length+1) (by omega);obtain⟨o,Ho⟩:=bm (fA w.a (g.length+1));rw[Ho.o]at G ho;have H:Xr (∀c,Calls prog 13 #[int i64 w.n,int i64 ((g.length:Int)-(o:Int)+1)] c fun e u=>e=returned (int i64 (fA w.n (g.length-o+1):Nat))/\u=c):=fun c=>by
   rw[show(g.length:Int)-(o:Int)+1=((g.length-o+1:Nat):Int) by omega];exact fJ w.n (g.length-o+1) c rn ⟨by omega,by omega⟩
  have hn:=hZ w.n (g.length-o+1) (by omega);obtain⟨n,Hn⟩:=bm (fA w.n (g.length-o+1));rw[Hn.o]at H hn;have I:Xr (∀c,Calls prog 13 #[int i64 w.e,int i64 ((g.length:Int)-(o:Int)-(n:Int)+1)] c fun e u=>e=returned (int i64 (fA w.e (g.length-o-n+1):Nat))/\u=c):=fun c=>by
   rw[show(g.length:Int)-(o:Int)-(n:Int)+1=((g.length-o-n+1:Nat):Int) by omega];exact fJ w.e (g.length-o-n+1) c re ⟨by omega,by omega⟩
  have he:=hZ w.e (g.length-o-n+1) (by omega);obtain⟨e,He⟩:=bm (fA w.e (g.length-o-n+1));rw[He.o]at I he;have ac:Xr (∀y,cJ y b x w S->oV y x w i Y af fs hd lo hi R O st->Calls prog 14 _ y _):=fun y a V=>a.loads hN V hk (o:=o) (n:=n) (e:=e) (by omega);clear C e1 e2 hk N ra rn re;go_upto_region 11 with fail
  go_quiet ((go_at_call 13;exact UD (K.o _)));go_upto_region 12 with fail
  obtain⟨y,B⟩:=bm (E.drewN nq);rw[B.o];have r:Xr (iw y b D.heap.size x w S 8 m s L A t):=d.o.Yh (by rw[<-B.o];exact bM.drewN nq);clear T U o2 o3 o4 o5 X Z c1 c3 z1 d1 z2 d2 gz gc;have c5:y.cell? ⟨b,5,none⟩=some (int i64 w.a):=by rw[ah r.o.m.Yv];rfl
  have c6:y.cell? ⟨b,6,none⟩=some (int i64 w.n):=by rw[ah r.o.m.Yv];rfl
  have c7:y.cell? ⟨b,7,none⟩=some (int i64 w.e):=by rw[ah r.o.m.Yv];rfl
  have f:Xr (oV y x w i Y af fs hd lo hi R O st):=ad.o.Yh (by rw[<-B.o];exact bM.drewN nq);have F:Xr _:=ac.o y r.o.m f.o;go_upto_region 13 with (go_at_call 13;refine Ug (G.o _) ?_;rintro q w4 ⟨rfl,j⟩;rw[j];clear j)
  go_upto_region 14 with (go_at_call 13;refine Ug (H.o _) ?_;rintro q w4 ⟨rfl,j⟩;rw[j];clear j)
  go_upto_region 15 with (go_at_call 13;refine Ug (I.o _) ?_;rintro q w4 ⟨rfl,j⟩;rw[j];clear j)
  go_wp2_with (go_at_call 14;refine Ug F.o ?_;rintro q w4 ⟨rfl,q1,⟨h',q2,q3⟩,q4⟩);go_ret;exact⟨rfl,r.o.m.both f.o.v f.o.i6 f.o.i7 q1 q2 (Us ⟨rfl,rfl⟩) (Us ⟨rfl,rfl⟩) q3 (IJ f.o.far f.o.p.lt q3) q4 (NE f.o.ok _)⟩
structure nI where
 k:Int
 a:Int
 c:Int
 d:Int
 s:Xs
 t:Xs
def Mh(o:nI):List Value:=[int i64 o.k,int i64 o.a,int i64 o.c,int i64 o.d,string o.s,string o.t]
def iO(L:List nI):ew:=lm 28 6 Mh L
theorem Nv:(prog.info? 28).map (fun i=>(i.zero,i.size,i.bytes))=some (some (agg #[int i64 0,int i64 0,int i64 0,int i64 0,string ⟨#[]⟩,string ⟨#[]⟩]),6,64):=by kernel_rfl
theorem Ch(o:nI):∀u∈Mh o,u.oneCell'=true:=by
 intro u a;simp only[Mh,List.mem_cons,List.not_mem_nil,or_false]at a;rcases a with rfl | rfl | rfl | rfl | rfl | rfl <;> rfl
structure CV(X:nI->Prop)(o:nI):Prop where
 a:rx o.a
 c:rx o.c
 d:rx o.d
 s:o.s.size<=1073741824
 t:o.t.size<=1073741824
 k:(1<=o.k/\o.k<=10)∨(15<=o.k/\o.k<=18)∨X o
def m9(w:World)(ao:Xu)(l:List nI):Prop:=∀(i:Nat) (o:nI),l[i]?=some o->∃b off,ao=some ⟨b,off,none⟩/\b<w.heap.size/\∀(j:Nat) u,(Mh o)[j]?=some u->w.cell? ⟨b,off+i*6+j,none⟩=some u
theorem m9.Yh{l:List nI}(h:m9 H zt l)(k:ae [] H D):m9 D zt l:=by
 intro i o f;obtain⟨b,a,e,c,d⟩:=h i o f;exact⟨b,a,e,Ul c k.size,fun j u g=>by rw[Uw (k.block b c (by simp))];exact d j u g⟩
structure zz(o:nI):Prop where
 k:rx o.k
 a:rx o.a
 c:rx o.c
 d:rx o.d
 s:o.s.size<=140737488351232
 t:o.t.size<=140737488351232
def lN(l:List nI)(k:Nat):nI:=l.getD k ⟨0,0,0,0,⟨#[]⟩,⟨#[]⟩⟩
theorem mM(l:List nI)(k:Nat)(h:k<l.length):l[k]?=some (lN l k):=by
 unfold lN;rw[Uc,Ub h];rfl
def Rk(l:List nI)(w:World)(e:Ending)(w':World):Prop:=(∃r,e=returned (bool r)/\(r=true->l.length<=1073741824/\∀i,i<l.length->(lN l i).s.size<=1073741824/\(lN l i).t.size<=1073741824))/\ae [] w w'
theorem GP(l:List nI)(w:World)(O:l.length<=140737488351232)(j:m9 w z0 l)(v:∀o∈l,zz o) :
  Calls prog 8 #[slice z0 l.length S] w fun e K=>Rk l w e K:=by
 have x:Xr (m9 w z0 l):=j;have q:Xr _:=v;clear j v;rcases kn 1073741824 l.length with ⟨B,n⟩ | ⟨B,n⟩
 ·go_enter func8,ntmps8;go_wp2;go_ret;exact⟨⟨false,rfl,by simp⟩,ae.refl _ _⟩
 ·go_enter func8,ntmps8;go_wp2
  go_loopg [3,4] l.length (fun g m i wr=>∃(k:Nat) (z:Int),k<=l.length/\g=l.length-k/\i=int i64 k/\m=int i64 z/\Xr (∀i,i<k->(lN l i).s.size<=1073741824/\(lN l i).t.size<=1073741824)/\0<=z/\z<=1073741824/\Xr (ae [] w wr))
  ·exact⟨0,l.length,by omega,by omega,rfl,rfl,fun i h=>by omega,by omega,by omega,ae.refl _ _⟩
  obtain⟨k,z,N,M,rfl,rfl,r,H,I,f⟩:=hrel;rcases kn k l.length with ⟨a,D⟩ | ⟨a,E⟩
  ·obtain⟨b,J,rfl,L,p⟩:=(m9.Yh x.o f.o) k _ (mM l k a);have y:=p 4 _ rfl;have A:=p 5 _ rfl;have F:=(q.o (lN l k) (Vq (mM l k a))).s;have G:=(q.o (lN l k) (Vq (mM l k a))).t;obtain⟨o,u⟩:=bm (lN l k);rw[u.o]at y A F G;clear p;by_cases C:(1073741824:Int)<z+o.s.size+o.t.size
   ·(go_upto_region 7 with fail);go_quiet (fail);have c:Xr (ae [] w (wr.drewN nq)):=f.o.drewN nq;go_wp2;go_ret;exact⟨⟨false,rfl,by simp⟩,c.o⟩
   ·have d:Xr (∀i,i<k+1->(lN l i).s.size<=1073741824/\(lN l i).t.size<=1073741824):=fun i j=>by
     by_cases e:i=k
     ·rw[e,u.o];omega
     ·exact r.o i (by omega)
    (go_upto_region 7 with fail);go_quiet (fail);have c:Xr (ae [] w (wr.drewN nq)):=f.o.drewN nq;go_wp2;go_roundg (l.length-(k+1))
    ·exact⟨k+1,z+o.s.size+o.t.size,by omega,rfl,by go_num,rfl,d,by omega,by omega,c⟩
    omega
  ·have d:Xr (∀i,i<l.length->(lN l i).s.size<=1073741824/\(lN l i).t.size<=1073741824):=fun i j=>r.o i (by omega);go_wp2;go_ret;exact⟨⟨true,rfl,fun _=>⟨by omega,d.o⟩⟩,f.o⟩
theorem LC(D:Int)(b t:Xs)(w:World)(Q:World->Prop)(f:∀W,ae [] w W->Calls prog 12 #[pointer (some ⟨S,0,none⟩),agg #[int i64 m,int i64 s,int i64 L,int i64 D,string b,string t]] W fun e c=>e=returned (bool true)/\Q c) :
  Calls prog 10 #[pointer (some ⟨S,0,none⟩),agg #[int i64 m,int i64 s,int i64 L,int i64 D,string b,string t]] w fun e c=>e=returned (bool true)/\Q c:=by
 obtain⟨W,a⟩:=bm (w.alloc (.cells #[int i64 m,int i64 s,int i64 L,int i64 D,string b,string t] 28));have g:=fg a.o;have d:=fE a.o;obtain⟨k,l,n,p,q,r,u⟩:=dx d;have i:Xr _:=f W g;clear d f g;go_enter func10,ntmps10;go_upto_region 1 with fail
 rw[a.o];go_wp2_with (go_at_call 12;refine Ug i.o ?_;rintro e v ⟨rfl,j⟩);go_ret;exact⟨rfl,j⟩
def Ty(w0:World)(h:Hd)(L:List nI):It where
 B:=List.range w0.heap.size++h.Yv.toList
 P w:=ae [] w0 w/\aB w h (iO L)
 lt w a q hq:=by
  rcases UG.1 hq with e | e
  ·exact Ul (Up.1 e) a.1.size
  ·exact a.2.lt (aR e)
 ok S w w' a k hb:=by
  refine⟨⟨k.os.trans a.1.os,k.tape.trans a.1.tape,k.output.trans a.1.output,Un a.1.size k.size,fun q hq _=>?_⟩,a.2.Ym (fun q hq=>k.block q (a.2.lt hq) (hb q (Vu _ (by rw[hq];simp))))⟩;rw[k.block q (Ul hq a.1.size) (hb q (Vc _ (Up.2 hq)))];exact a.1.block q hq (by simp)
def TN:It where
 B:=[]
 P _:=True
 lt _ _ q hq:=by cases hq
 ok _ _ _ _ _ _:=trivial
def R8:Mc:=⟨⟨none,0⟩,⟨none,0⟩,⟨none,0⟩,⟨none,0⟩,⟨none,0⟩,[],[],[],0,0,0,0,⟨#[]⟩,0,0,⟨#[]⟩,0,0,slice none 0 0,slice none 0 0⟩
theorem JS:(Instr.build 42 #[]).run prog c=.ok (agg R8.cells.toArray) c :=
 run_build c 42 _ _ (by kernel_rfl)
theorem OP(X:nI->Prop)(P:World)(h:Hd)(L:List nI)(w:World)(hL:L.length<=1073741824)(m:∀i,i<L.length->CV X (lN L i))(J:Nat->World->Prop)(I:∀W,ae [] w W->W.heap[w.heap.size]?=some (.cells R8.cells.toArray 42)->J 0 W)(N:∀n wr,J n wr->ae [] P wr/\aB wr h (iO L))(K:∀n wr Q,J n wr->ae [] wr Q->J n Q)(O:∀n wr o,J n wr->n<=1073741824->CV X o->Calls prog 10 #[pointer (some ⟨w.heap.size,0,none⟩),agg #[int i64 o.k,int i64 o.a,int i64 o.c,int i64 o.d,string o.s,string o.t]] wr fun e p=>e=returned (bool true)/\J (n+1) p)(M:∀n wr,J n wr->n<=1073741825->Calls prog 11 #[pointer (some ⟨w.heap.size,0,none⟩)] wr fun e p=>e=returned (bool true)/\ae [] wr p) :
  Calls prog 9 #[slice h.ao L.length h.cap] w fun e p=>e=returned (int i64 (-1))/\ae [] P p:=by
 obtain⟨F,H⟩:=h;obtain⟨W,r⟩:=bm (w.alloc (.cells R8.cells.toArray 42));have A:Xr (J 0 W):=I W (by rw[<-r.o];exact bM.alloc _) (by rw[<-r.o];exact Ui _ _);have C:Xr _:=m;have y:Xr _:=N;have v:Xr _:=K;have z:Xr _:=O;have x:Xr _:=M;have T:=JS;have G:Xr (R8.cells.toArray=#[slice none 0 0,slice none 0 0,slice none 0 0,slice none 0 0,slice none 0 0,int i64 0,int i64 0,int i64 0,int i64 0,string ⟨#[]⟩,int i64 0,int i64 0,string ⟨#[]⟩,int i64 0,int i64 0,slice none 0 0,slice none 0 0]):=rfl;rw[G.o]at r;simp only[G.o]at T;clear I N K O M m;go_enter func9,ntmps9;go_upto_region 2 with fail
 rw[r.o];go_wp2
 go_loopg [4] L.length (fun g i wr=>∃k:Nat,k<=L.length/\g=L.length-k/\i=int i64 k/\Xr (J k wr))
 ·exact⟨0,by omega,rfl,rfl,A⟩
 obtain⟨k,hk,hg,rfl,q⟩:=hrel;have u:=y.o k wr q.o;rcases kn k L.length with ⟨l,Z⟩ | ⟨l,ac⟩
 ·obtain⟨V,E,Y,j⟩:=(aB.srcG (f:=Mh) u.2 (fun _=>rfl)) k _ (mM L k l);have U:=j 0 _ rfl;have c1:=j 1 _ rfl;have c2:=j 2 _ rfl;have c3:=j 3 _ rfl;have c4:=j 4 _ rfl;have c5:=j 5 _ rfl;have D:Xr _:=(z.o k wr (lN L k) q.o (by omega) (C.o k l));generalize lN L k=o at *;rw[VD]at U;replace E:F=some ⟨V,0,none⟩:=E;subst E;clear u j q;go_upto_region 6 with (go_at_call 10;refine Ug D.o ?_;rintro e w1 ⟨rfl,b⟩)
  have S:Xr _:=(x.o (k+1) w1 b (by omega));have B:Xr _:=b;clear b;go_wp2_with (go_at_call 11;refine Ug S.o ?_;rintro e w2 ⟨rfl,k2⟩);go_roundg (L.length-(k+1))
  ·exact⟨k+1,by omega,rfl,by go_num,v.o _ _ _ B.o k2⟩
  omega
 ·have R:Xr _:=u.1;clear u q;go_wp2;go_ret;exact⟨rfl,R.o⟩
theorem KR{L:List nI}{o:nI}{p:nI->Prop}(h:∀i,i<L.length->p (lN L i))(b:p o):∀i,i<(L++[o]).length->p (lN (L++[o]) i):=by
 intro i a;rw[Uh]at a;replace a:i<L.length+1:=a;unfold lN;rw[Uc];by_cases e:i<L.length
 ·have:=h i e;unfold lN at this;rw[Uc]at this;rw[Uv e];exact this
 ·rw[Ur (by omega),show i-L.length=0 by omega];exact b
def CO(K:List Int)(k:Int)(q:Nat):Bool:=((decide (1<=k)&&decide (k<=10))||(decide (15<=k)&&decide (k<=18)))||(K.take q).any (fun x=>k==x)
theorem xZ(h:g<1∨(10<g/\g<15)∨18<g):CO u g 0=false:=by
 unfold CO;rw[V4,List.any_nil,VM];simp;omega
theorem DI(h:(1<=g/\g<=10)∨(15<=g/\g<=18))(q:Nat):CO u g q=true:=by
 unfold CO;have:((decide (1<=g)&&decide (g<=10))||(decide (15<=g)&&decide (g<=18)))=true:=by simp;omega
 rw[this];rfl
theorem Ns(K:List Int)(k:Int)(q:Nat)(h:q<K.length):CO K k (q+1)=(CO K k q||(k==K[q])):=by
 unfold CO;rw[WG,Ub h,X9,<-WD];simp
theorem PV(h:CO u g T=true):((1<=g/\g<=10)∨(15<=g/\g<=18))∨g∈u:=by
 unfold CO at h;rw[UO]at h;rcases h with h | h
 ·left;simp at h;omega
 ·right
  obtain⟨x,a,b⟩:=UW.1 h;rw[WP b];exact Wf a
def xk(w:World)(ka:Xu)(K:List Int):Prop:=∀q (hq:q<K.length),∃kb,ka=some ⟨kb,0,none⟩/\kb<w.heap.size/\w.cell? ⟨kb,q,none⟩=some (int i64 K[q])
theorem xk.Yh(h:xk H zt u)(k:ae [] H D):xk D zt u:=fun q b=>by
 obtain⟨a,e,z,c⟩:=h q b;exact⟨a,e,Ul z k.size,by rw[Uw (k.block a z (by simp))];exact c⟩
theorem xk.of(h:H.heap[T]?=some (.cells (u.map (int i64)).toArray 3)):xk H (some ⟨T,0,none⟩) u:=fun q a=>⟨T,rfl,aj h,by rw[ah h];simp[a]⟩
theorem KZ(X:nI->Prop)(S:Xu)(G:Nat)(l:List nI)(K:List Int)(V:Xu)(w:World)(hl:l.length<=140737488351232)(hi:m9 w S l)(ho:∀o∈l,zz o)(J:xk w V K)(aT:K.length<=100)(hK:∀o∈l,o.k∈K->X o)(hU:∀h L wr,ae [] w wr->aB wr h (iO L)->L.length<=1073741824->(∀i,i<L.length->CV X (lN L i))->Calls prog 9 #[slice h.ao L.length h.cap] wr fun e w'=>e=returned (int i64 (-1))/\ae [] w w') :
  Calls prog 6 #[slice S l.length G,slice V K.length K.length] w fun e w'=>e=returned (bool true)/\ae [] w w':=by
 have ai:Xr _:=GP S G l w hl hi ho;have HI:Xr (m9 w S l):=hi;have HO:Xr _:=ho;have W:Xr (xk w V K):=J;have Y:Xr _:=hK;have ap:Xr _:=hU;obtain⟨iX,az,P,Q,R⟩:=UC Nv;clear hi ho J hK hU;go_enter func6,ntmps6;go_upto_region 2 with (go_at_call 8;refine Ug ai.o ?_;rintro e w1 ⟨⟨r,rfl,hr⟩,k1⟩)
 have D:Xr _:=k1;have HR:Xr _:=hr;clear k1 hr;cases r
 ·go_wp2;go_ret;exact⟨rfl,D.o⟩
 ·obtain⟨a3,N⟩:=HR.o rfl;have al:Xr _:=N;have ac:Xr (ip w w1 ⟨none,0⟩ (iO [])):=⟨Uj _ _ _ _,(by intro k hk;cases hk),D.o⟩;clear N HR;go_wp2
  go_loopg [6,7] l.length (fun g lv iv wr=>∃(k:Nat) (x:Hd) (L:List nI),k<=l.length/\g=l.length-k/\lv=slice x.ao L.length x.cap/\iv=int i64 k/\L.length<=k/\Xr (∀i,i<L.length->CV X (lN L i))/\Xr (ip w wr x (iO L)))
  ·exact⟨0,⟨none,0⟩,[],by omega,rfl,rfl,rfl,by simp,(fun i h=>by cases h),ac⟩
  obtain⟨k,x,L,hk,hg,rfl,rfl,a0,v,u⟩:=hrel;rcases kn k l.length with ⟨s,a2⟩ | ⟨s,a4⟩
  ·obtain⟨b,ba,rfl,hb,y⟩:=(m9.Yh HI.o u.o.Yu) k _ (mM l k s);have m:=Vq (mM l k s);have I:=HO.o (lN l k) m;have M:=Y.o (lN l k) m;have c0:=y 0 _ rfl;have c1:=y 1 _ rfl;have c2:=y 2 _ rfl;have c3:=y 3 _ rfl;have c4:=y 4 _ rfl;have c5:=y 5 _ rfl;rw[VD]at c0;have O:=al.o k s;have t:Xr _:=I;have F:Xr _:=O;have Z:Xr _:=M;have ag:Xr (xk wr V K):=xk.Yh W.o u.o.Yu;generalize lN l k=o at *;clear y I O M m;have ar:=u.o.YF;have ax:Xr ((iO L).n<=4294967296):=(by show L.length<=_;omega);have E:Xr ((iO L).n=L.length):=rfl
   have C:Xr (CO K o.k K.length=true->CV X o):=fun q=>⟨t.o.a,t.o.c,t.o.d,F.o.1,F.o.2,by
    rcases PV q with (q | q) | q
    ·exact Us q
    ·exact Uo (Us q)
    ·exact Uo (Uo (Z.o q))⟩
   have z:(o.k<1/\Xr (CO K o.k 0=false))∨((10<o.k/\o.k<15)/\Xr (CO K o.k 0=false))∨(18<o.k/\Xr (CO K o.k 0=false))∨((1<=o.k/\o.k<=10)/\Xr (CO K o.k 0=true))∨((15<=o.k/\o.k<=18)/\Xr (CO K o.k 0=true)):=by
    by_cases z1:o.k<1
    ·exact Us ⟨z1,xZ (Us z1)⟩
    ·by_cases z2:o.k<=10
     ·exact Uo (Uo (Uo (Us ⟨⟨by omega,z2⟩,DI (Us ⟨by omega,z2⟩) 0⟩)))
     ·by_cases z3:o.k<15
      ·exact Uo (Us ⟨⟨by omega,z3⟩,xZ (Uo (Us ⟨by omega,z3⟩))⟩)
      ·by_cases z4:o.k<=18
       ·exact Uo (Uo (Uo (Uo ⟨⟨by omega,z4⟩,DI (Uo ⟨by omega,z4⟩) 0⟩)))
       ·exact Uo (Uo (Us ⟨by omega,xZ (Uo (Uo (by omega)))⟩))
   rcases z with ⟨T,f⟩ | ⟨⟨T,h2⟩,f⟩ | ⟨T,f⟩ | ⟨⟨T,h2⟩,f⟩ | ⟨⟨T,h2⟩,f⟩
   all_goals
    go_wp2
    go_loopg [9,10] K.length (fun g a j w2=>∃q:Nat,q<=K.length/\g=K.length-q/\a=bool (CO K o.k q)/\j=int i64 q/\wr=w2)
    ·exact⟨0,by omega,rfl,congrArg bool (by rw[f.o] <;> simp <;> omega),rfl,rfl⟩
    obtain⟨q,hq,a1,rfl,rfl,rfl⟩:=hrel;rcases kn q K.length with ⟨A,a5⟩ | ⟨A,-⟩
    ·obtain⟨kb,rfl,a7,cq⟩:=ag.o q A;have p:Xr _:=Ns K o.k q A;generalize K[q]=kq at *;cases U:CO K o.k q
     ·rw[U,Vn]at p;go_wp2;go_roundg (K.length-(q+1))
      ·exact⟨q+1,by omega,rfl,congrArg bool p.o.symm,by go_num,rfl⟩
      omega
     ·rw[U,Wh]at p;go_wp2;go_roundg (K.length-(q+1))
      ·exact⟨q+1,by omega,rfl,congrArg bool p.o.symm,by go_num,rfl⟩
      omega
    ·have aS:q=K.length:=(by omega);subst aS;have a6:¬(K.length:Int)<K.length:=by omega
     cases U:CO K o.k K.length
     ·go_wp2;go_roundg (l.length-(k+1))
      ·exact⟨k+1,x,L,by omega,rfl,rfl,by go_num,by omega,v,u⟩
      omega
     ·have af:Xr _:=C.o U;go_wp2_with (at_builtin;refine dB wr rfl (.tmp 57) (.tmp 62) 22 rfl iX (agg #[int i64 0,int i64 0,int i64 0,int i64 0,string ⟨#[]⟩,string ⟨#[]⟩]) 64 x (iO L) (Mh o) underlying22 az P Q R rfl (show 0<6 by omega) (by rw[E.o];simp[Act.eval]) ar ax.o (by omega) (by simp[Act.eval]) rfl (Ch o) ?_;intro h5 w5 B H;rw[iO,gU]at B;have ad:Xr _:=u.o.Yr H B;clear B H);go_roundg (l.length-(k+1))
      ·exact⟨k+1,h5,L++[o],by omega,rfl,by rw[E.o,Uh];rfl,by go_num,by rw[Uh];show _+1<=_;omega,KR v.o af.o,ad⟩
      omega
  ·have an:Xr _:=ap.o x L wr u.o.Yu u.o.YF (by omega) v.o;go_wp2_with (go_at_call 9;refine Ug an.o ?_;rintro e w5 ⟨rfl,k5⟩);go_ret;exact⟨rfl,k5⟩
set_option maxRecDepth 512
theorem sA(d:Xu)(q r:Nat)(L:Xt)(w:World)(j:ig w z0 L)(l:ig w d L)(F:L.length<=4294967296) :
  Calls prog 26 #[slice z0 L.length q,slice d L.length r] w fun e u=>e=returned (bool true)/\∃n,u=w.drewN n:=by
 have m:Xr (ig w z0 L):=j;have p:Xr (ig w d L):=l;clear j l;go_enter func26,ntmps26;go_wp2
 go_loopg [5] L.length (fun g i wr=>∃k:Nat,k<=L.length/\g=L.length-k/\i=int i64 k/\Xr (∃n,wr=w.drewN n))
 ·exact⟨0,by omega,by omega,rfl,0,rfl⟩
 obtain⟨k,E,D,rfl,b⟩:=hrel;have f:Xr (ae [] w wr):=by show ae _ _ _;obtain⟨n,e⟩:=b.o;rw[e];exact(ae.refl [] w).drewN n
 rcases kn k L.length with ⟨a,s⟩ | ⟨a,t⟩
 ·obtain⟨z,rfl,B,v⟩:=(ig.Yh m.o f.o) k _ (Ub a);obtain⟨A,rfl,C,y⟩:=(ig.Yh p.o f.o) k _ (Ub a);generalize L[k]=x at *;go_upto_region 6 with fail
  go_quiet (fail);have c:Xr (∃n,wr.drewN nq=w.drewN n):=by show ∃_,_;obtain⟨n,e⟩:=b.o;exact⟨n+nq,by rw[e,Xa]⟩
  go_wp2;go_roundg (L.length-(k+1))
  ·exact⟨k+1,by omega,rfl,by go_num,c⟩
  omega
 ·go_wp2;go_ret;exact⟨rfl,b.o⟩
def Kl(bo:Option Nat)(L:Xt):It where
 B:=bo.toList
 P w:=uQ w bo L
 lt w a q hq:=by
  cases bo with
  | none=>cases hq
  | some b=>rw[XK,Uq]at hq;rw[hq];exact aj (a.Yv b rfl)
 ok S w w' a k hb:=⟨a.nil,fun b e=>k.get (a.Yv b e) (hb b (by rw[e];simp))⟩
theorem PZ(h:T∈(Kl M I).B):M=some T:=by
 replace h:T∈M.toList:=h;cases M with
 | none=>cases h
 | some g=>rw[XK,Uq]at h;rw[h]
theorem uQ.srcX(h:uQ H M I):ig H (wa M) I:=by
 intro k x a;cases M with
 | none=>rw[h.nil.1 rfl]at a;cases a
 | some b =>
  have c:=h.Yv b rfl;exact⟨b,rfl,aj c,by rw[ah c];simp[dm,a]⟩
abbrev Tx:=Option Nat×Hd×List ByteArray
def QS(t:Tx):List Value:=[slice (wa t.1) t.2.2.length t.2.2.length,slice t.2.1.ao t.2.2.length t.2.1.cap]
def nf(TS:List Tx):ew:=lm 63 2 QS TS
structure TI(I:Nat×Nat->It)(tv:Value)(ht:Hd)(TS:List Tx)(N:Nat):Prop where
 e:tv=slice ht.ao TS.length ht.cap
 r:I (11,0)=cW ht (nf TS)
 l:∀k bo h L,TS[k]?=some (bo,h,L)->I (12,k)=Kl bo L/\I (13,k)=cW h (aD L)/\L.length<=900000000
 n:TS.length<=3*N
structure da(w:World)(b:Nat)(I:Nat×Nat->It)(M:Mc)(ht:Hd)(TS:List Tx)(N:Nat):Prop where
 m:cJ w b I M N
 q:M.qv=slice none 0 0
 t:TI I M.tv ht TS N
theorem da.Yh{a:List Tx}(h:da H T d k v a y)(b:ae [] H D):da D T d k v a y:=⟨h.m.Yh b,h.q,h.t⟩
theorem da.more{a:List Tx}(h:da H T d k v a y):da H T d k v a (y+1):=⟨h.m.more,h.q,{ h.t with n:=by have:=h.t.n;omega }⟩
def qn(b:Nat)(I:Nat×Nat->It)(N:Nat)(e:Ending)(w':World):Prop:=e=returned (bool true)/\∃I' M' ht' TS',da w' b I' M' ht' TS' (N+1)/\∀j i,j=10∨(14<=j/\j<=16)->I' (j,i)=I (j,i)
theorem da.up{c:List Tx}(h:da H T d k v c y)(s:jo T d k y true y0 D):qn T d y y0 D:=by
 obtain⟨m,e,f,o,a⟩:=s;refine⟨m,e,f,v,c,⟨o,a.q.trans h.q,⟨a.t.trans h.t.e,(a.k 11 0 (by decide)).trans h.t.r,fun b g p L u=>?_,by have:=h.t.n;omega⟩⟩,fun j i w=>a.k j i (by omega)⟩;rw[a.k 12 b (by decide),a.k 13 b (by decide)];exact h.t.l b g p L u
theorem da.rowOwn{a:List Tx}(h:da H T d k v a y):aB H v (nf a):=by have:=h.m.sep.all (11,0);rw[h.t.r]at this;exact this
theorem da.c16{a:List Tx}(h:da H T d k v a y):H.cell? ⟨T,16,none⟩=some (slice v.ao a.length v.cap):=by rw[ah h.m.Yv,<-h.t.e];rfl
theorem da.at_{j:List Tx}(h:da H T d k v j y)(s:i<j.length):∃b a L g,j[i]?=some (b,a,L)/\(v.ao=some ⟨g,0,none⟩/\g<H.heap.size/\H.cell? ⟨g,i*2,none⟩=some (slice (wa b) L.length L.length)/\H.cell? ⟨g,i*2+1,none⟩=some (slice a.ao L.length a.cap))/\uQ H b L/\aB H a (aD L)/\L.length<=900000000:=by
 obtain⟨⟨b,a,L⟩,e⟩:∃x,j[i]?=some x:=⟨j[i],Ub s⟩
 obtain⟨g,r,z,c⟩:=(aB.srcG (f:=QS) h.rowOwn (fun _=>rfl)) i _ e;obtain⟨p,q,u⟩:=h.t.l i b a L e;have n:=h.m.sep.all (12,i);have o:=h.m.sep.all (13,i);rw[p]at n;rw[q]at o;exact⟨b,a,L,g,e,⟨r,z,c 0 _ rfl,c 1 _ rfl⟩,n,o,u⟩
set_option maxRecDepth 100000
theorem Kt(p:List Tx)(j:World)(h:da j b x w N p S)(hN:S<=1073741825) :
  Calls prog 11 #[pointer (some ⟨b,0,none⟩)] j fun e G=>e=returned (bool true)/\ae [] j G:=by
 have X:Xr (da j b x w N p S):=h;have W:Xr (cJ j b x w S):=h.m;have Y:j.cell? ⟨b,15,none⟩=some (slice none 0 0):=by rw[ah h.m.Yv,<-h.q];rfl
 have ac:=h.m.len.2.2;have ad:=h.t.n;clear h;go_enter func11,ntmps11;go_wp2
 go_loopg [3] 0 (fun g i wr=>g=0/\i=int i64 0/\j=wr)
 ·exact⟨rfl,rfl,rfl⟩
 obtain⟨K,rfl,rfl⟩:=hrel;go_wp2
 go_loopg [5] p.length (fun g i wr=>∃k:Nat,k<=p.length/\g=p.length-k/\i=int i64 k/\Xr (ae [] j wr))
 ·exact⟨0,by omega,rfl,rfl,ae.refl _ _⟩
 obtain⟨k,hk,ag,rfl,s⟩:=hrel;have z:Xr (da wr b x w N p S):=X.o.Yh s.o;have I:=z.o.c16;by_cases y:k<p.length
 ·obtain⟨Q,J,L,g,-,⟨K,gz,g0,g1⟩,U,T,hl⟩:=z.o.at_ y;rw[K]at I;have v:Xr (∀n,Calls prog 26 #[slice (wa Q) L.length L.length,slice J.ao L.length J.cap] (wr.drewN n) fun e G=>e=returned (bool true)/\∃m,G=(wr.drewN n).drewN m):=fun n=>sA (wa Q) J.ao _ _ L (wr.drewN n) (ig.Yh U.srcX (bM.drewN n)) (ig.Yh T.srcX (bM.drewN n)) (by omega);have M:(k:Int)<p.length:=by omega
  clear U T K;go_upto_region 10 with fail
  go_quiet ((go_at_call 26;exact XH (v.o _)));have u:Xr (ae [] j (wr.drewN nq)):=s.o.drewN nq;go_wp2;go_roundg (p.length-(k+1))
  ·exact⟨k+1,by omega,rfl,by go_num,u⟩
  omega
 ·have O:¬(k:Int)<p.length:=by omega
  have H:Xr _:=s.o;clear s;go_wp2
  go_loopg [7] w.L.length (fun g i wr=>∃k:Nat,k<=w.L.length/\g=w.L.length-k/\i=int i64 k/\Xr (ae [] j wr))
  ·exact⟨0,by omega,rfl,rfl,H⟩
  obtain⟨k,hk,ai,rfl,s⟩:=hrel;have d:Xr (cJ wr b x w S):=W.o.Yh s.o;have Z:wr.cell? ⟨b,3,none⟩=some (slice w.hl.ao w.L.length w.hl.cap):=by rw[ah d.o.Yv];rfl
  have c4:wr.cell? ⟨b,4,none⟩=some (slice w.hc.ao w.L.length w.hc.cap):=by rw[ah d.o.Yv];rfl
  by_cases y:k<w.L.length
  ·obtain⟨⟨a,c,f⟩,r⟩:∃P,w.L[k]?=some P:=⟨w.L[k],Ub y⟩
   obtain⟨A,B,-,af⟩:=d.o.l k a c f r;obtain⟨gl,E,gz,R⟩:=pt d.o.ownL (k:=k) (x:=(a,f)) (by rw[UL,r];rfl);obtain⟨gr,F,rz,V⟩:=pt d.o.ownC (k:=k) (x:=(c,f)) (by rw[UL,r];rfl);replace R:wr.cell? ⟨gl,k,none⟩=some (slice (wa a) f.length f.length):=R;replace V:wr.cell? ⟨gr,k,none⟩=some (slice (wa c) f.length f.length):=V;rw[E]at Z;rw[F]at c4;have C:jx wr a f:=(by have:=d.o.sep.all (8,k);rw[A]at this;exact this);have D:jx wr c f:=(by have:=d.o.sep.all (9,k);rw[B]at this;exact this);have v:Xr (∀n,Calls prog 27 #[slice (wa a) f.length f.length,slice (wa c) f.length f.length] (wr.drewN n) fun e G=>e=returned (bool true)/\∃m,G=(wr.drewN n).drewN m):=fun n=>oO (wa a) (wa c) _ _ f (wr.drewN n) (lL.Yu C.src (bM.drewN n) (by simp)) (lL.Yu D.src (bM.drewN n) (by simp)) (by omega);have M:(k:Int)<(w.L.length:Int):=(by omega);clear r A B E F C D;(go_upto_region 16 with fail);go_quiet ((go_at_call 27;exact XH (v.o _)));have u:Xr (ae [] j (wr.drewN nq)):=s.o.drewN nq;go_wp2;go_roundg (w.L.length-(k+1))
   ·exact⟨k+1,by omega,rfl,by go_num,u⟩
   omega
  ·have O:¬(k:Int)<(w.L.length:Int):=(by omega);go_wp2;go_ret;exact⟨rfl,s.o⟩
theorem RO:(prog.info? 63).map (fun i=>(i.zero,i.size,i.bytes))=some (some (agg #[slice none 0 0,slice none 0 0]),2,48):=by kernel_rfl
theorem cJ.retv(h:cJ H T d k y)(s:pH D z6)(v:Value)(e:z6 (0,0)=sS T 42 ({ k with tv:=v }:Mc).cells)(a:∀j i,0<j->j<10->z6 (j,i)=d (j,i)):cJ D T z6 { k with tv:=v } y:={
 sep:=s
 w0:=e
 x:=by rw[a 1 0 (by decide) (by decide)];exact h.x
 m:=by rw[a 2 0 (by decide) (by decide)];exact h.m
 r:=by rw[a 3 0 (by decide) (by decide)];exact h.r
 ls:=by rw[a 4 0 (by decide) (by decide)];exact h.ls
 lw:=by rw[a 5 0 (by decide) (by decide)];exact h.lw
 v:=fun i x m b c=>by rw[a 6 i (by decide) (by decide),a 7 i (by decide) (by decide)];exact h.v i x m b c
 l:=fun i x m b c=>by rw[a 8 i (by decide) (by decide),a 9 i (by decide) (by decide)];exact h.l i x m b c
 fit:=h.fit
 len:=h.len
 rng:=h.rng }
theorem zl{a:It}(b:10<=T)(c:i<10):fT d (T,y) a (i,z5)=d (i,z5):=au _ _ (bG (by omega))
theorem da.re{b:List Tx}(h:da H T d k v b y)(s:pH D z6)(a:∀j i,j<12∨(j<14/\i<b.length)->z6 (j,i)=d (j,i)):da D T z6 k v b y:=by
 refine⟨h.m.retv s k.tv (by rw[a 0 0 (by omega)];exact h.m.w0) (fun j i _ c=>a j i (by omega)),h.q,⟨h.t.e,by rw[a 11 0 (by omega)];exact h.t.r,fun j f g L c=>?_,h.t.n⟩⟩;have o:=(Uk.1 c).1;rw[a 12 j (by omega),a 13 j (by omega)];exact h.t.l j f g L c
theorem da.lay{c:List Tx}(h:da H T d k v c y)(b:It){a:Nat}(o:(12<=a/\i=c.length)∨14<=a)(n:ae [] H D)(g:b.P D)(f:∀q,q∈b.B->H.heap.size<=q):da D T (fT d (a,i) b) k v c y :=
 h.re (h.m.sep.put (a,i) b (n.mono (by simp)) g (fun q l=>Uo (f q l))) (fun j r p=>au _ _ (fun e=>by cases e;omega))
theorem da.add{b:List Tx}{n:Hd}(h:da H T d k v b y)(u:d (12,b.length)=Kl M I)(w:d (13,b.length)=cW n (aD I))(F:I.length<=900000000)(G:b.length+1<=3*y)(g:bJ H D v t)(o:aB D t (nf (b++[(M,n,I)]))) :
  ∃A J z f,da (D.setCell ⟨T,16,none⟩ (slice t.ao (b.length+1) t.cap)) T A { k with tv:=J } z f y/\f.length=b.length+1/\∀j i,(0<j/\j<=10)∨14<=j->A (j,i)=d (j,i):=by
 have s:=h.m.sep.grown h.m.w0 (bG (by decide)) h.t.r g o 16 (slice t.ao (b.length+1) t.cap);have m:=h.m.retv s (slice t.ao (b.length+1) t.cap) (bV _ _ _) (fun j i K E=>by rw[au _ _ (bG (by omega)),zl (by decide) E]);have q:∀a i,11<a->fT (fT d (11,0) (cW t (nf (b++[(M,n,I)])))) (0,0) (sS T 42 (k.cells.set 16 (slice t.ao (b.length+1) t.cap))) (a,i)=d (a,i):=fun a i L=>by rw[au _ _ (bG (by omega)),au _ _ (bG (by omega))]
 refine⟨_,_,t,b++[(M,n,I)],⟨m,h.q,⟨by rw[Uh];rfl,by rw[au _ _ (bG (by decide))];exact bV _ _ _,fun j p x B c=>?_,?_⟩⟩,Uh,?_⟩
 ·rw[q 12 j (by decide),q 13 j (by decide)];by_cases e:j<b.length
  ·rw[Uv e]at c;exact h.t.l j p x B c
  ·have C:j=b.length:=by
    have:=(Uk.1 c).1;rw[Uh]at this;have:j<b.length+1:=this;omega
   subst C;rw[Ur (Ue _),U3]at c;cases c
   exact⟨u,w,F⟩
 ·rw[Uh];exact G
 ·intro j i c;rw[au _ _ (bG (by omega)),au _ _ (bG (by omega))]
def SE(b:Nat)(I:Nat×Nat->It)(M:Mc)(n N:Nat)(e:Ending)(w':World):Prop:=e=returned (bool true)/\∃I' v ht' TS',da w' b I' { M with tv:=v } ht' TS' N/\TS'.length=n/\∀j i,(0<j/\j<=10)∨14<=j->I' (j,i)=I (j,i)
def CX(b:Nat)(I:Nat×Nat->It)(M:Mc)(n N:Nat)(e:Ending)(w':World):Prop:=e=returned (bool true)/\∃I' v ht' TS',da w' b I' { M with tv:=v } ht' TS' N/\TS'.length=n/\∀j i,(0<j/\j<=10)∨(14<=j/\j<=16)->I' (j,i)=I (j,i)
theorem CX.ms(h:CX T d k y (i+1) y0 H):qn T d i y0 H:=by
 obtain⟨e,c,v,b,a,f,-,g⟩:=h;exact⟨e,c,_,b,a,f,fun j l m=>g j l (by omega)⟩
theorem Kn(c:List Tx)(s:Option Nat)(y:Hd)(L:Xt)(C:World)(h:da C b x w N c S)(hN:S<=1073741825)(hn:c.length+1<=3*S)(D:x (12,c.length)=Kl s L)(hO:aB C y (aD L))(hl:L.length<=900000000) :
  Calls prog 42 #[pointer (some ⟨b,0,none⟩),slice (wa s) L.length L.length,slice y.ao L.length y.cap] C fun e w'=>SE b x w (c.length+1) S e w':=by
 have hX:uQ C s L:=by have:=h.m.sep.all (12,c.length);rw[D]at this;exact this
 have P:Xr _:=(sA (wa s) y.ao L.length y.cap L C hX.srcX hO.srcX (by omega));have HM:Xr (da C b x w N c S):=h;have ap:Xr _:=D;have HO:Xr (aB C y (aD L)):=hO;obtain⟨iS,a5,ac,af,ag⟩:=UC jN;obtain⟨iT,a6,ai,al,an⟩:=UC RO;have ax:Xr _:=hn;have F:Xr (y.ao=none->L.length=0/\y.cap=0):=fun e=>by
  rcases hO.Ys with ⟨v,e2,e3⟩ | ⟨g,aT,v,-⟩
  ·exact⟨e2,by rw[v]⟩
  ·rw[e]at v;cases v
 have Y:Xr (∀u∈dm L,u.oneCell'=true):=fun u hu=>by
  obtain⟨be,-,rfl⟩:=Vf.1 hu;rfl
 have X:Xr ((dm L).length=L.length*1):=cM (by rw[dm,Uy,XL]);have p:(L.length=0/\wa s=none)∨L.length≠0:=by
  by_cases e:L=[]
  ·exact Us ⟨by rw[e];rfl,by rw[hX.nil.2 e];rfl⟩
  ·exact Uo (fun e2=>e (Ws.1 e2))
 have a1:∀w',aB w' ⟨none,0⟩ (aD []):=fun w'=>Uj _ _ _ _;have a3:Xr ((nf c).n<=4294967296):=by show c.length<=_;omega
 have Q:Xr ((nf c).n=c.length):=rfl;have ba:Xr ((⟨(aD []).e,(aD []).size,(aD []).n+L.length,(aD []).xs++dm L⟩:ew)=aD L):=by show ew.mk _ _ (0+L.length) ([]++dm L)=_;rw[V3];rfl
 have a0:Xr ((aD []).n+L.length<=1000000000):=by show 0+L.length<=_;omega
 have a7:Xr ((aD []).n+L.length=L.length):=V3 _;clear h hX D;have f:((((L.length:Int)==0)=true/\wa s=none))∨((L.length:Int)==0)=false:=by
  rcases p with ⟨h0,hn⟩ | h0
  ·exact Us ⟨by rw[h0];rfl,hn⟩
  ·exact Uo (Uz.2 (by omega))
 clear p;obtain⟨ra,R⟩:=bm (wa s);rw[R.o]at P f ⊢;have az:Xr (∀k:Hd,QS (s,k,L)=[slice ra L.length L.length,slice k.ao L.length k.cap]):=fun k=>by rw[<-R.o];rfl
 obtain⟨l,A⟩:=y;rcases f with ⟨h0,rfl⟩ | h0
 all_goals
  go_enter func42,ntmps42;go_upto_region 2 with (go_at_call 26;refine Ug P.o ?_;rintro e w1 ⟨rfl,n1,Z⟩;have M:Xr (ae [] C w1):=(by show ae _ _ _;rw[Z];exact bM.drewN n1);clear Z)
  have O:Xr (aB w1 ⟨l,A⟩ (aD L)):=HO.o.Yh M.o;have a4:Xr (∀ad,l=some ad->∀j u,(dm L)[j]?=some u->w1.cell? (ad.add j)=some u):=fun ad e j u W=>by
   rcases O.o.Ys with ⟨v,-,-⟩ | ⟨g,aT,v,e2,-⟩
   ·rw[show l=none from congrArg Hd.ao v]at e;cases e
   ·rw[show l=some ⟨g,0,none⟩ from v]at e;cases e
    rw[bS];exact(O.o.cell v j u W)
  go_upto_region 4 with fail
  go_upto_region 5 with (at_builtin;refine dW _ rfl (.const (slice none 0 0)) (.tmp 30) 61 rfl iS (string ⟨#[]⟩) 16 ⟨none,0⟩ (aD []) underlying61 a5 ac af ag rfl UA rfl (a1 _) l L.length A (dm L) rfl X.o F.o a4.o Y.o a0.o (by omega) ?_;intro k w5 G E;rw[ba.o]at G;rw[a7.o])
  have ar:Xr (ae [] w1 w5):=E.Yu.mono (by simp[Hd.Yv])
  have d:=(show Xr _ from(HM.o.Yh M.o).lay (cW k (aD L)) (a:=13) (Us ⟨by decide,rfl⟩) ar.o G (fun q B=>by
   have B:=aR B;rcases E.Yv with e | ⟨g,e,hg⟩
   ·rw[e]at B;cases B
   ·rw[e]at B;cases B;exact hg))
  have J:Xr (fT x (13,c.length) (cW k (aD L)) (12,c.length)=Kl s L):=cM (by rw[au _ _ (bG (by decide))];exact ap.o);have K:Xr _:=bV x (13,c.length) (cW k (aD L));have I:Xr (∀j i,(0<j/\j<=10)∨14<=j->fT x (13,c.length) (cW k (aD L)) (j,i)=x (j,i)):=fun j i W=>au _ _ (bG (by omega));clear G E;generalize fT x (13,c.length) (cW k (aD L))=I5 at *;have bd:=d.o.c16;have a2:=d.o.rowOwn;have H:Xr (b∉N.Yv.toList):=fun B=>d.o.m.sep.far (0,0) (11,0) (bG (by decide)) b (by rw[d.o.m.w0];exact Uq.2 rfl) (by rw[d.o.t.r];exact B);obtain⟨T,U⟩:=k;go_wp2_with (at_builtin;refine dB w5 rfl (.tmp 36) (.tmp 40) 40 rfl iT (agg #[slice none 0 0,slice none 0 0]) 48 N (nf c) [slice _ L.length L.length,slice T L.length U] underlying40 a6 ai al an rfl Xo (by rw[Q.o];simp[Act.eval]) a2 a3.o (by omega) (by simp[Act.eval]) rfl (by intro u hu;simp only[List.mem_cons,List.not_mem_nil,or_false]at hu;rcases hu with rfl | rfl <;> rfl) ?_;intro h7 w7 z V;replace z:aB w7 h7 ⟨(nf c).e,(nf c).size,(nf c).n+1,(nf c).xs++QS (s,⟨T,U⟩,L)⟩:=(by rw[az.o];exact z);rw[nf,gU]at z;have p7:=V.Yu.get d.o.m.Yv H.o;have f7:=am p7;have c7:w7.cell? ⟨b,16,none⟩=some (slice N.ao c.length N.cap):=(by rw[ah p7,<-d.o.t.e];rfl);have z7:=aj p7;have HF:Xr _:=d.o.add J.o K.o hl ax.o V z;rw[Q.o]);go_ret;obtain⟨I',v',bc,aS,q1,q2,q3⟩:=HF.o;exact⟨rfl,I',v',bc,aS,q1,q2,fun j i W=>(q3 j i W).trans (I.o j i W)⟩
theorem Sq(M:List Tx)(A C D:Int)(s t:Xs)(y:World)(h:da y b x w N M S)(hV:w.V.length≠0)(hA:rx A)(hC:rx C)(hN:S<=1073741824)(P:∀i G m Z hd lo hi u r st c a,da a b x w N M S->oV a x w i G m Z hd lo hi u r st->Calls prog 24 #[pointer (some ⟨b,0,none⟩),pointer (some ⟨G,0,none⟩),pointer (some ⟨m,0,none⟩),string c,string s,int i64 D] a fun e n=>qn b x S e n) :
  Calls prog 10 #[pointer (some ⟨b,0,none⟩),agg #[int i64 19,int i64 A,int i64 C,int i64 D,string s,string t]] y fun e n=>qn b x S e n:=by
 obtain⟨W,HW⟩:=bm (y.alloc (.cells #[int i64 19,int i64 A,int i64 C,int i64 D,string s,string t] 28));obtain⟨hM,hB,aS,R⟩:=h.m.boxed 19 A C D s t W HW.o;have HT:Xr (da W b x w N M S):=h.Yh R;obtain⟨z,B,o2,o3,o4,o5,E⟩:=dx hB;have HL:Xr _:=(l9 b S x w 19 A C D s t W hM (by omega));have HS:Xr (iw W b y.heap.size x w S 19 A C D s t):=⟨hM,hB⟩;have az:=h.m.len.1;have I:Xr (∀a,Calls prog 13 #[int i64 A,int i64 w.V.length] a fun e n=>e=returned (int i64 (fA A w.V.length:Nat))/\n=a):=fun a=>fJ A w.V.length a hA ⟨by omega,by omega⟩;have Q:=hZ A w.V.length (by omega);obtain⟨i,Hi⟩:=bm (fA A w.V.length);rw[Hi.o]at I Q;have ax:((w.V.length:Int)==0)=false:=Uz.2 (by omega);have a2:(i:Int)<(w.V.length:Int):=by omega
 clear h hM hB R;go_enter func10,ntmps10;go_upto_region 1 with fail
 rw[HW.o];go_upto_region 2 with (go_at_call 12;refine Ug HL.o ?_;rintro e w1 ⟨rfl,k1⟩)
 have p:Xr (iw w1 b y.heap.size x w S 19 A C D s t):=HS.o.Yh k1;have al:Xr (da w1 b x w N M S):=HT.o.Yh k1;clear z B o2 o3 o4 o5 E k1;obtain⟨z,B,-⟩:=dx p.o.o;have E:=aj p.o.o;have Y:w1.cell? ⟨b,0,none⟩=some (slice w.hx.ao w.V.length w.hx.cap):=by rw[ah p.o.m.Yv];rfl
 go_upto_region 4 with fail
 go_quiet ((go_at_call 13;exact UD (I.o _)));go_upto_region 5 with fail
 obtain⟨F,v⟩:=bm (w1.drewN nq);rw[v.o];have l:Xr (iw F b y.heap.size x w S 19 A C D s t):=p.o.Yh (by rw[<-v.o];exact bM.drewN nq);have K:Xr (da F b x w N M S):=al.o.Yh (by rw[<-v.o];exact bM.drewN nq);clear z B E Y;obtain⟨z,B,o2,o3,o4,o5,E⟩:=dx l.o.o;obtain⟨G,m,Z,hd,lo,hi,u,r,st,g1,g2,j,⟨e1,z1,d1⟩,O,z2,d2⟩:=l.o.m.ver Q;have Y:F.cell? ⟨b,0,none⟩=some (slice w.hx.ao w.V.length w.hx.cap):=by rw[ah l.o.m.Yv];rfl
 have c1:F.cell? ⟨b,1,none⟩=some (slice w.hm.ao w.V.length w.hm.cap):=by rw[ah l.o.m.Yv];rfl
 rw[e1]at Y;rw[O]at c1;have ag:Xr _:=M0 m Z hd u r st F j.d j.st j.le j.ok;have ad:Xr (∀c a,ae [] F a->Calls prog 24 #[pointer (some ⟨b,0,none⟩),pointer (some ⟨G,0,none⟩),pointer (some ⟨m,0,none⟩),string c,string s,int i64 D] a fun e n=>qn b x S e n):=fun c a k=>P i G m Z hd lo hi u r st c a (K.o.Yh k) (j.Yh k);clear j e1 O P;go_upto_region 34 with (go_at_call 23;refine Ug ag.o ?_;rintro e w3 ⟨L,h3,rfl,X,l3⟩)
 have H:Xr _:=X.Yu;have ai:Xr (iw w3 b y.heap.size x w S 19 A C D s t):=l.o.Yh X.Yu;have af:Xr (cN w3 h3.ao 6 ln L):=aB.srcG (f:=ln) X.YF (fun _=>rfl);have a0:Xr (L.length<=h3.cap):=by
  rcases X.YF.Ys with ⟨-,O,-⟩ | ⟨g,ap,-,-,e3,-⟩
  ·have O:L.length=0:=O;show L.length<=_;omega
  ·exact e3
 clear z B o2 o3 o4 o5 E Y c1 z1 d1 z2 d2 X;obtain⟨z,B,o2,o3,o4,o5,E⟩:=dx ai.o.o;obtain⟨an,aT⟩:=h3;by_cases hL:L.length=0
 ·rw[hL];go_wp2;go_ret;exact⟨rfl,_,_,_,_,(K.o.Yh H.o).more,fun _ _ _=>rfl⟩
 ·have ar:((L.length:Int)==0)=false:=Uz.2 (by omega);have J:Xr (∀a,Calls prog 13 #[int i64 C,int i64 L.length] a fun e n=>e=returned (int i64 (fA C L.length:Nat))/\n=a):=fun a=>fJ C L.length a hC ⟨by omega,by omega⟩;have T:=hZ C L.length (by omega);obtain⟨k,Hk⟩:=bm (fA C L.length);rw[Hk.o]at J T;have a3:(k:Int)<L.length:=by omega
  obtain⟨g0,eg,a1,hc⟩:=af.o k _ (Ub T);replace eg:an=some ⟨g0,0,none⟩:=eg;subst eg;have r0:=hc 0 _ rfl;rw[VD]at r0;clear hc;generalize L[k].Yx=c at *;have ac:Xr (∀a,ae [] w3 a->Calls prog 24 #[pointer (some ⟨b,0,none⟩),pointer (some ⟨G,0,none⟩),pointer (some ⟨m,0,none⟩),string c,string s,int i64 D] a fun e n=>qn b x S e n):=fun a k=>ad.o c a (H.o.trans k);go_upto_region 37 with (go_at_call 13;refine Ug (J.o _) ?_;rintro q w4 ⟨rfl,U⟩;rw[U];clear U)
  go_region_with (go_at_call 24;refine(ac.o _ (by exact bM.drew)).mono ?_;rintro e w9 ⟨rfl,q9⟩)
  all_goals
   go_wp2;go_ret;exact⟨rfl,q9⟩
theorem uQ.wrote(h:uQ H (some T) I)(s:Xs):uQ (H.setCell ⟨T,y,none⟩ (string s)) (some T) (I.set y s):=by
 refine⟨⟨(fun e=>by cases e),fun e=>?_⟩,fun q e=>?_⟩
 ·have:I=[]:=Ws.1 (by rw[<-UZ (i:=y) (a:=s),e];rfl);exact absurd (h.nil.2 this) (by simp)
 ·cases e
  rw[ab (h.Yv T rfl),U0,EL]
theorem Og(o:aB H v (aD I))(a:v.ao=some ⟨T,0,none⟩)(s:Xs):aB (H.setCell ⟨T,y,none⟩ (string s)) v (aD (I.set y s)):=by
 have:=o.putAt a y (string s);have e:(⟨(aD I).e,(aD I).size,(aD I).n,(aD I).xs.set y (string s)⟩:ew)=aD (I.set y s):=by
  unfold aD;rw[EL,UZ]
 rw[e]at this;exact this
theorem da.wrote{c:Xt}{a:List Tx}(h:da H T d k t a y)(u:a[i]?=some (M,v,I))(F:c.length=I.length)(G:pH D (fT (fT d (12,i) (Kl M c)) (13,i) (cW v (aD c)))):∃x B w o,da D T x B w o (y+1)/\∀j g,j=10∨(14<=j/\j<=16)->x (j,g)=d (j,g):=by
 have f:=(Uk.1 u).1;have E:nf (a.set i (M,v,c))=nf a:=by
  have e:(a.set i (M,v,c)).flatMap QS=a.flatMap QS:=by
   have C:(a.set i (M,v,c)).map QS=a.map QS:=by
    rw[Wo];apply VZ;intro j;rw[Ve];by_cases z:i=j
    ·subst z;rw[Uf rfl,UL,u];simp only[List.length_map,f,if_true,Option.map_some,QS,F]
    ·rw[Ud z]
   rw[Wq,Wq,C]
  unfold nf lm;rw[e,UZ]
 have m:=(h.m.retv G k.tv (by rw[zl (by decide) (by decide),zl (by decide) (by decide)];exact h.m.w0) (fun j g _ b=>by rw[zl (by decide) b,zl (by decide) b])).more;refine⟨_,_,t,a.set i (M,v,c),⟨m,h.q,⟨by rw[UZ];exact h.t.e,by rw[au _ _ (bG (by decide)),au _ _ (bG (by decide)),E];exact h.t.r,fun j p s A b=>?_,by rw[UZ];have:=h.t.n;omega⟩⟩,fun j g b=>by rw[au _ _ (bG (by omega)),au _ _ (bG (by omega))]⟩;rw[Ve]at b;rw[au _ _ (bG (by decide))];by_cases e:i=j
 ·subst e;rw[Uf rfl,Uf f]at b;cases b
  obtain⟨-,-,J⟩:=h.t.l i M v I u;rw[bV,bV];exact⟨rfl,rfl,by omega⟩
 ·rw[Ud e]at b;rw[au _ _ (vm (Ne.symm e)),au _ _ (vm (Ne.symm e)),au _ _ (bG (by decide))];exact h.t.l j p s A b
theorem Qg(f:List Tx)(A C D:Int)(s t:Xs)(R:World)(h:da R b x w N f S)(hN:S<=1073741824)(hA:rx A)(hC:rx C) :
  Calls prog 12 #[pointer (some ⟨b,0,none⟩),agg #[int i64 18,int i64 A,int i64 C,int i64 D,string s,string t]] R fun e w'=>qn b x S e w':=by
 obtain⟨W,HW⟩:=bm (R.alloc (.cells #[int i64 18,int i64 A,int i64 C,int i64 D,string s,string t] 28));obtain⟨-,hB,bj,a6⟩:=h.m.boxed 18 A C D s t W HW.o;have p:=h.Yh a6;obtain⟨o0,o1,o2,o3,o4,o5,Q⟩:=dx hB;have bz:=aj p.m.Yv;have d:=p.c16;by_cases hL:f.length=0
 ·have HF:Xr (da W b x w N f S):=p;rw[hL]at d;clear h p hB;go_enter func12,ntmps12;go_upto_region 1 with fail
  rw[HW.o];go_wp2;go_ret;exact⟨rfl,_,_,_,_,HF.o.more,fun _ _ _=>rfl⟩
 ·have bg:=h.t.n;have X:Xr (∀J,Calls prog 13 #[int i64 A,int i64 f.length] J fun e w'=>e=returned (int i64 (fA A f.length:Nat))/\w'=J):=fun J=>fJ A f.length J hA ⟨by omega,by omega⟩;have aS:=hZ A f.length (by omega);obtain⟨k,Hk⟩:=bm (fA A f.length);rw[Hk.o]at X aS;have HM:Xr (da W b x w N f S):=p;obtain⟨bo,F,L,M,hk,⟨I,O,E,K⟩,hX,hO,br⟩:=p.at_ aS;obtain⟨c,j,-⟩:=p.t.l k bo F L hk;rw[I]at d;have bp:(k:Int)<f.length:=by omega
  have bf:(0:Int)<f.length:=by omega
  have a3:Xr _:=hk;have T:Xr _:=c;have a0:Xr _:=j;by_cases B:L.length=0
  ·rw[B]at E;clear h p hB hk c j I hX hO;go_enter func12,ntmps12;(go_upto_region 1 with fail);rw[HW.o];(go_upto_region 48 with fail);go_quiet ((go_at_call 13;exact UD (X.o _)));have HF:Xr (da (W.drewN nq) b x w N f S):=HM.o.Yh (bM.drewN nq);go_wp2;go_ret;exact⟨rfl,_,_,_,_,HF.o.more,fun _ _ _=>rfl⟩
  ·have ar:Xr (∀J,Calls prog 13 #[int i64 C,int i64 L.length] J fun e w'=>e=returned (int i64 (fA C L.length:Nat))/\w'=J):=fun J=>fJ C L.length J hC ⟨by omega,by omega⟩;have af:=hZ C L.length (by omega);obtain⟨i,Hi⟩:=bm (fA C L.length);rw[Hi.o]at ar af;obtain⟨a,rfl⟩:∃a,bo=some a:=by
    cases bo with
    | none=>rw[hX.nil.1 rfl]at B;exact absurd rfl B
    | some a=>exact⟨a,rfl⟩
   obtain⟨y,H⟩:∃y,F.ao=some ⟨y,0,none⟩:=by
    rcases hO.Ys with ⟨-,e2,-⟩ | ⟨g,a4,e1,-⟩
    ·exact absurd e2 B
    ·exact⟨g,e1⟩
   have G:Xr _:=H;have P:a≠R.heap.size:=by
    intro e;have:=(Kl (some a) L).lt R (by have:=h.m.sep.all (12,k);rw[c]at this;exact this) a (Uq.2 rfl);omega
   have aT:y≠a:=by
    intro e;exact p.m.sep.far (13,k) (12,k) (bG (by decide)) y (by rw[j];show y∈F.Yv.toList;unfold Hd.Yv;rw[H];exact Uq.2 rfl) (by rw[c,e];exact Uq.2 rfl)
   replace E:W.cell? ⟨M,k*2,none⟩=some (slice (some ⟨a,0,none⟩) L.length L.length):=E;rw[H]at K;have bl:(i:Int)<L.length:=(by omega);have bk:(0:Int)<L.length:=(by omega);have ap:Xr _:=P;have ag:Xr (M≠a):=by
    intro e;exact p.m.sep.far (11,0) (12,k) (bG (by decide)) M (by rw[p.t.r];show M∈N.Yv.toList;unfold Hd.Yv;rw[I];exact Uq.2 rfl) (by rw[c,e];exact Uq.2 rfl)
   have a1:Xr (b≠a):=by
    intro e;exact p.m.sep.far (0,0) (12,k) (bG (by decide)) b (by rw[p.m.w0];exact Uq.2 rfl) (by rw[c,e];exact Uq.2 rfl)
   have u:Xr (∀v,ae [a] W v->(v.cell? ⟨R.heap.size,2,none⟩=some (int i64 C)/\v.cell? ⟨R.heap.size,4,none⟩=some (string s)/\R.heap.size<v.heap.size)/\(v.cell? ⟨b,16,none⟩=some (slice (some ⟨M,0,none⟩) f.length N.cap)/\b<v.heap.size)/\v.cell? ⟨M,k*2,none⟩=some (slice (some ⟨a,0,none⟩) L.length L.length)/\v.cell? ⟨M,k*2+1,none⟩=some (slice (some ⟨y,0,none⟩) L.length F.cap)/\M<v.heap.size):=fun v kw=>by
    have q:∀g i,g<W.heap.size->g≠a->v.cell? ⟨g,i,none⟩=W.cell? ⟨g,i,none⟩:=fun g i hg hn=>Uw (kw.block g hg (by simp;exact hn));have z:=kw.size;exact⟨⟨by rw[q _ _ Q (Ne.symm ap.o)];exact o2,by rw[q _ _ Q (Ne.symm ap.o)];exact o4,by omega⟩,⟨by rw[q _ _ bz a1.o];exact d,by omega⟩,by rw[q _ _ O ag.o];exact E,by rw[q _ _ O ag.o];exact K,by omega⟩
   have be:Xr (L.length<=F.cap):=by
    rcases hO.Ys with ⟨-,e2,-⟩ | ⟨g,a4,-,-,e3,-⟩
    ·exact absurd e2 B
    ·exact e3
   clear h p hB hk c j I hX hO P H aT;go_enter func12,ntmps12;(go_upto_region 1 with fail);rw[HW.o];(go_upto_region 48 with fail);go_quiet ((go_at_call 13;exact UD (X.o _)));(go_upto_region 50 with fail);obtain⟨W2,ax⟩:=bm (W.drewN nq);rw[ax.o];have ai:Xr (ae [] W W2):=(by show ae _ _ _;rw[<-ax.o];exact bM.drewN nq);clear o0 o1 o2 o3 o4 o5 Q d bz E K O;obtain⟨⟨o2,o4,Q⟩,⟨d,bz⟩,E,K,O⟩:=u.o W2 (ai.o.mono (by simp));go_quiet ((go_at_call 13;exact UD (ar.o _)));(go_upto_region 51 with fail);obtain⟨W3,az⟩:=bm (W2.drewN nq);rw[az.o];have U:Xr (ae [] W W3):=(by show ae _ _ _;rw[<-az.o];exact ai.o.drewN nq);have an:Xr (da W3 b x w N f S):=HM.o.Yh U.o;have ac:Xr (uQ W3 (some a) L):=(by show uQ _ _ _;have:=an.o.m.sep.all (12,k);rw[T.o]at this;exact this);clear o2 o4 Q d bz E K O;obtain⟨⟨o2,o4,Q⟩,⟨d,bz⟩,E,K,O⟩:=u.o W3 (U.o.mono (by simp));have d0:W3.cell? ⟨a,i,none⟩=some (string L[i]):=by rw[ah (ac.o.Yv a rfl)];simp[dm,af]
   have df:=am (ac.o.Yv a rfl) i;generalize L[i]=a7 at *;go_region
   all_goals
    obtain⟨W4,Y⟩:=bm ((W3.setCell ⟨a,i,none⟩ (string s)).drew);rw[Y.o];have al:Xr (ae [a] W3 W4):=(by show ae _ _ _;rw[<-Y.o];exact((ae.refl [a] _).sl1 _).drew);have S4:Xr (pH W4 (fT x (12,k) (Kl (some a) (L.set i s)))):=by
     show pH _ _;refine an.o.m.sep.put _ _ (by rw[T.o];exact al.o) ?_ (fun q hq=>Us (by rw[T.o];exact hq));rw[<-Y.o];exact(Kl _ _).ok [] _ _ (ac.o.wrote s) bM.drew (by simp)
    have ad:Xr (fT x (12,k) (Kl (some a) (L.set i s)) (13,k)=cW F (aD L)):=cM (by rw[au _ _ (bG (by decide))];exact a0.o);have V:Xr (aB W4 F (aD L)):=(by show aB _ _ _;have:=S4.o.all (13,k);rw[ad.o]at this;exact this);clear d0 df o2 o4 Q d bz E K O;obtain⟨⟨o2,o4,Q⟩,⟨d,bz⟩,E,K,O⟩:=u.o W4 ((U.o.mono (by simp)).trans al.o);have d0:W4.cell? ⟨y,i,none⟩=some (string L[i]):=V.o.cell G.o i _ (by simp[aD,dm,af]);have df:=Ed V.o G.o i;generalize L[i]=bd at *;(go_upto_region 52 with fail);go_region
    all_goals
     obtain⟨W5,Z⟩:=bm ((W4.setCell ⟨y,i,none⟩ (string s)).drew);rw[Z.o];have a2:Xr (ae [y] W4 W5):=(by show ae _ _ _;rw[<-Z.o];exact((ae.refl [y] _).sl1 _).drew);have S5:Xr (pH W5 (fT (fT x (12,k) (Kl (some a) (L.set i s))) (13,k) (cW F (aD (L.set i s))))):=by
      show pH _ _;have a5:F.Yv.toList=[y]:=(by unfold Hd.Yv;rw[G.o];rfl);refine S4.o.put _ _ (by rw[ad.o];show ae F.Yv.toList _ _;rw[a5];exact a2.o) ?_ (fun q hq=>Us (by rw[ad.o];exact hq));rw[<-Z.o];exact(cW _ _).ok [] _ _ (Og V.o G.o s) bM.drew (by simp)
     go_wp2;go_ret;exact⟨rfl,HM.o.wrote a3.o UZ S5.o⟩
theorem oF{P:Program}{l:Array Oper}{f:List Oper}{o:Oper}{a:Act}{Q:Exit->Act->World->Prop}(L:o.guard=none)(s x:Operand)(t:TypeId)(y:o.op=Op.call { callee:=Callee.builtin Builtin.append,args:=#[s,x],argTypes:=#[t,t] })(i:TypeInfo)(z:Value)(d:Nat)(h:Hd)(r:ew)(b:List Value)(B:P.underlying t=some (.slice r.e))(C:P.info? r.e=some i)(D:i.zero=some z)(E:i.size=r.size)(F:i.bytes=d)(G:z.cells.size=r.size)(H:0<r.size)(O:a.eval s=slice h.ao r.n h.cap)(g:aB c h r)(V:r.n+1<=140737488355328)(J:(r.n+1)*d<=140737488355328)(R:a.eval x=slice (some ⟨c.heap.size,0,none⟩) 1 1)(W:b.length=r.size)(q:∀u∈b,u.oneCell'=true)(I:∀p m,aB m p ⟨r.e,r.size,r.n+1,r.xs++b⟩->bJ c m h p->wpList P l Q f (a.put o.dst (slice p.ao (r.n+1) p.cap)) m) :
  wpList P l Q (o :: f) a (c.alloc (.cells b.toArray r.e)):=by
 have A:ae [] c (c.alloc (.cells b.toArray r.e)):=bM.alloc _;have N:(c.alloc (.cells b.toArray r.e)).heap[c.heap.size]?=some (.cells b.toArray r.e):=Ui _ _;obtain⟨w,m,k,S,T⟩:=qD (P:=P) (c.alloc (.cells b.toArray r.e)) t o.type i z d h r B C D E F G H (g.Yh A) (some ⟨c.heap.size,0,none⟩) 1 1 b (by omega) (fun e=>by cases e) (fun U e j u M=>by cases e;rw[bS,ah N];simpa using M) q (by unfold maxLen;omega) J;refine wpList_plain L fun K v=>?_;unfold Oper.wp;simp[execOp,y,resolve,invoke,builtin,O,R,k,Result.andThen];exact v _ _ (I w m S ((bJ.Yh A).trans T))
def pn(d:Int)(o:nI):nI:=if o.k=19 then { o with d:=d } else o
theorem NP(l:List nI)(w:World)(hl:l.length*64<=140737488351232)(hi:m9 w z0 l) :
  Calls prog 7 #[slice z0 l.length S,int i64 L] w fun e w'=>∃j,e=returned (slice j.ao l.length j.cap)/\ip w w' j (iO (l.map (pn L))):=by
 have HI:Xr (m9 w z0 l):=hi;obtain⟨iX,K,r,u,v⟩:=UC Nv;have P:Xr (ip w w ⟨none,0⟩ (iO [])):=⟨Uj _ _ _ _,(by intro k hk;cases hk),ae.refl _ _⟩;clear hi;go_enter func7,ntmps7;go_wp2
 go_loopg [5,6] l.length (fun g lv iv wr=>∃(k:Nat) (j:Hd) (d:List nI),k<=l.length/\g=l.length-k/\lv=slice j.ao d.length j.cap/\iv=int i64 k/\d.length=k/\Xr (d=(l.take k).map (pn L))/\Xr (ip w wr j (iO d)))
 ·exact⟨0,⟨none,0⟩,[],by omega,rfl,rfl,rfl,rfl,rfl,P⟩
 obtain⟨k,j,d,hk,hg,rfl,rfl,H,O,M⟩:=hrel;rcases kn k l.length with ⟨E,ac⟩ | ⟨E,-⟩
 ·obtain⟨b,af,rfl,hb,D⟩:=(m9.Yh HI.o M.o.Yu) k _ (mM l k E);have p:Xr (d++[pn L (lN l k)]=(l.take (k+1)).map (pn L)):=by
   show _=_;rw[WG,mM l k E,UJ,<-O.o];rfl
  have c0:=D 0 _ rfl;have c1:=D 1 _ rfl;have c2:=D 2 _ rfl;have c3:=D 3 _ rfl;have c4:=D 4 _ rfl;have c5:=D 5 _ rfl;rw[VD]at c0;generalize lN l k=o at *;clear D;have C:(iO d).n=d.length:=rfl;have F:Xr ((iO d).n=d.length):=C;have I:Xr ((iO d).n+1<=140737488355328):=by show(iO d).n+1<=_;rw[C];omega
  have J:Xr (((iO d).n+1)*64<=140737488355328):=by show((iO d).n+1)*64<=_;rw[C];omega
  obtain⟨X,N⟩:=bm (wr.alloc (.cells #[int i64 o.k,int i64 o.a,int i64 o.c,int i64 o.d,string o.s,string o.t] 28));have G:Xr _:=fg N.o;have q:Xr _:=fE N.o;cases A:(o.k==19)
  ·have y:Xr (pn L o=o):=(by show _=_;unfold pn;rw[Ud (fun e=>by rw[e]at A;cases A)]);rw[y.o]at p;obtain⟨U,V,W,Z,b4,b5,z⟩:=dx q.o;have f:Xr _:=M.o.Yh G.o;have B:=f.o.YF;(go_upto_region 6 with fail);rw[N.o];go_wp2_with (at_builtin;refine oF X rfl (.tmp 23) (.tmp 25) 22 rfl iX (agg #[int i64 0,int i64 0,int i64 0,int i64 0,string ⟨#[]⟩,string ⟨#[]⟩]) 64 j (iO d) (Mh o) underlying22 K r u v rfl (show 0<6 by omega) (by rw[F.o];simp[Act.eval]) B I.o J.o (by simp[Act.eval]) rfl (Ch o) ?_;intro h5 w5 i m;rw[iO,gU]at i;have x:Xr _:=f.o.Yr m i;clear i m);go_roundg (l.length-(k+1))
   ·exact⟨k+1,h5,d++[o],by omega,rfl,by rw[Uh,H];rfl,by go_num,by rw[Uh];show _+1=_;omega,p,x⟩
   omega
  ·have y:Xr (pn L o={ o with d:=L }):=(by show _=_;unfold pn;rw[Uf (WP A)]);rw[y.o]at p;obtain⟨Y,Q⟩:=bm (X.setCell ⟨wr.heap.size,3,none⟩ (int i64 L));have T:Xr (ae [] wr Y):=by show ae _ _ _;rw[<-Q.o];exact G.o.sr1 (Ue _) _
   have R:Xr (Y.heap[wr.heap.size]?=some (.cells #[int i64 o.k,int i64 o.a,int i64 o.c,int i64 L,string o.s,string o.t] 28)):=cM (by rw[<-Q.o,ab q.o 3 _];rfl);obtain⟨U,V,W,Z,b4,b5,z⟩:=dx q.o;have bf:=am q.o 3;have f:Xr _:=M.o.Yh T.o;have B:=f.o.YF;(go_upto_region 6 with fail);rw[N.o];(go_upto_region 8 with fail);rw[Q.o];clear U V W Z b4 b5 z bf;obtain⟨U,V,W,Z,b4,b5,z⟩:=dx R.o;go_wp2_with (at_builtin;refine oF Y rfl (.tmp 23) (.tmp 25) 22 rfl iX (agg #[int i64 0,int i64 0,int i64 0,int i64 0,string ⟨#[]⟩,string ⟨#[]⟩]) 64 j (iO d) (Mh { o with d:=L }) underlying22 K r u v rfl (show 0<6 by omega) (by rw[F.o];simp[Act.eval]) B I.o J.o (by simp[Act.eval]) rfl (Ch _) ?_;intro h5 w5 i m;rw[iO,gU]at i;have x:Xr _:=f.o.Yr m i;clear i m);go_roundg (l.length-(k+1))
   ·exact⟨k+1,h5,d++[(⟨o.k,o.a,o.c,L,o.s,o.t⟩:nI)],by omega,rfl,by rw[Uh,H];rfl,by go_num,by rw[Uh];show _+1=_;omega,p,x⟩
   omega
 ·have e:k=l.length:=by omega
  subst e;have ad:¬(l.length:Int)<l.length:=by omega
  rw[Vk]at O;go_wp2;go_ret;exact⟨j,rfl,by rw[<-O.o];exact M.o⟩
end Go.Proofs.YtnbhnocdhbcbcaaGreat
