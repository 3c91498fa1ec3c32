import Derived.Test.YtnbhnocdhbcbcaaGreatK30
namespace Go.Proofs.YtnbhnocdhbcbcaaGreat
open Go.RowKit Tryz
open Value IntKind Ending
set_option maxHeartbeats 0
variable{H D:World}{T y i z5:Nat}{d z6:Nat×Nat->It}{k:Mc}{v t:Hd}{M:Option Nat}{zt:Xu}{p:List Int}{g:Int}{I:Xt}{y0:Ending}(z0:Xu)(b S:Nat)(x:Nat×Nat->It)(w:Mc)(m s L:Int)(u:World)(N:Hd)
theorem cD.loads(a:cD H T d k y)(O:y<=1073741824){x m o n e t q c b:Nat}{u f:Fs}{z D:Option Nat}(V:oL H d k i x m u v t q c b M)(K:k.L[z5]?=some (z,D,f))(w:o+n+e<=f.length) :
  Calls prog 14 #[pointer (some ⟨x,0,none⟩),pointer (some ⟨m,0,none⟩),slice (vl z) f.length f.length,int i64 o,int i64 n,int i64 e] H fun r N=>EP H x m v t q c b (mX (dS ((f.drop o).take n)) M) (jW u ((f.drop o).take n)) r N:=by
 obtain⟨A,-,j,J⟩:=a.l z5 z D f K;have B:=a.sep.all (8,z5);rw[A]at B;cases z with
 | none =>
  have s:=jo.nil B rfl;subst s;have E:o=0:=by simp at w;omega
  have F:n=0:=by simp at w;omega
  have G:e=0:=by simp at w;omega
  subst E F G;exact FC x m u v t q c b M H V.p V.d V.far
 | some g =>
  have I:g∉x :: iU t q:=by have:=a.sep.far (8,z5) (6,i) (bm (by decide)) g (by rw[A];exact TH.2 rfl);rw[V.i6]at this;exact this
  have C:g∉m :: (v.XR.toList++iU c b):=by have:=a.sep.far (8,z5) (7,i) (bm (by decide)) g (by rw[A];exact TH.2 rfl);rw[V.i7]at this;exact this
  exact Ds x m g o n e u f v t q c b M H V.p V.d (jo.XR B g rfl) V.far (fun e=>I (by rw[e];exact Ud)) (fun e=>C (by rw[e];exact Ud)) (fun e=>C (Uc _ (UC _ (by rw[e];simp)))) w (by omega) j
set_option maxRecDepth 100000
theorem Sj(A t:Xs)(D:World)(h:cD D b x w S)(hV:w.V.length≠0)(hA:ri m)(hC:ri s)(hN:S<=1073741824) :
  Calls prog 10 #[pointer (some ⟨b,0,none⟩),agg #[int i64 8,int i64 m,int i64 s,int i64 L,string A,string t]] D fun e u=>jg b x w S true e u:=by
 obtain⟨W,HW⟩:=bn (D.alloc (.cells #[int i64 8,int i64 m,int i64 s,int i64 L,string A,string t] 28));obtain⟨hM,hB,ap,-⟩:=h.boxed 8 m s L A t W HW.o;obtain⟨T,U,o2,o3,o4,o5,X⟩:=du hB;have HL:Xr _:=(lV b S x w 8 m s L A t W hM (by omega));have HS:Xr (iq W b D.heap.size x w S 8 m s L A t):=⟨hM,hB⟩;have an:=h.len.1;have J:Xr (∀c,Calls prog 13 #[int i64 m,int i64 w.V.length] c fun e u=>e=returned (int i64 (fw m w.V.length:Nat))/\u=c):=fun c=>fF m w.V.length c hA ⟨by omega,by omega⟩;have P:=hQ m w.V.length (by omega);obtain⟨i,Hi⟩:=bn (fw m w.V.length);rw[Hi.o]at J P;have al:((w.V.length:Int)==0)=false:=TT.2 (by omega);have av:(i:Int)<(w.V.length:Int):=by omega
 clear h hM hB;go_enter func10,ntmps10;go_upto_region 1 with fail
 rw[HW.o];go_upto_region 2 with (go_at_call 12;refine Tr HL.o ?_;rintro e w1 ⟨rfl,k1⟩)
 have z:Xr (iq w1 b D.heap.size x w S 8 m s L A t):=HS.o.XD k1;clear T U o2 o3 o4 o5 X k1;obtain⟨T,U,-⟩:=du z.o.o;have X:=aj z.o.o;have Z:w1.cell? ⟨b,0,none⟩=some (slice w.hx.ao w.V.length w.hx.cap):=by rw[ah z.o.m.XR];rfl
 go_upto_region 4 with fail
 go_quiet ((go_at_call 13;exact TZ (J.o _)));go_upto_region 5 with fail
 obtain⟨E,M⟩:=bn (w1.drewN nq);rw[M.o];have d:Xr (iq E b D.heap.size x w S 8 m s L A t):=z.o.XD (by rw[<-M.o];exact kr0.drewN nq);clear T U X Z;obtain⟨T,U,o2,o3,o4,o5,X⟩:=du d.o.o;obtain⟨Y,af,fs,hd,lo,hi,R,O,st,g1,g2,C,⟨e1,z1,d1⟩,e2,z2,d2⟩:=d.o.m.ver P;have Z:E.cell? ⟨b,0,none⟩=some (slice w.hx.ao w.V.length w.hx.cap):=by rw[ah d.o.m.XR];rfl
 have c1:E.cell? ⟨b,1,none⟩=some (slice w.hm.ao w.V.length w.hm.cap):=by rw[ah d.o.m.XR];rfl
 rw[e1]at Z;rw[e2]at c1;have ad:Xr _:=C;have c3:E.cell? ⟨b,3,none⟩=some (slice w.hl.ao w.L.length w.hl.cap):=by rw[ah d.o.m.XR];rfl
 by_cases hL:w.L.length=0
 ·rw[hL]at c3;clear C e1 e2;go_wp2;go_ret;exact⟨rfl,_,_,d.o.m.more,sB.refl _ _⟩
 ·have ai:=d.o.m.len.2.2;have K:Xr (∀c,Calls prog 13 #[int i64 s,int i64 w.L.length] c fun e u=>e=returned (int i64 (fw s w.L.length:Nat))/\u=c):=fun c=>fF s w.L.length c hC ⟨by omega,by omega⟩;have Q:=hQ s w.L.length (by omega);obtain⟨k,Hk⟩:=bn (fw s w.L.length);rw[Hk.o]at K Q;obtain⟨⟨la,lc,g⟩,hk⟩:∃Y,w.L[k]?=some Y:=⟨w.L[k],Tm Q⟩
  obtain⟨-,-,-,ar⟩:=d.o.m.l k la lc g hk;obtain⟨gl,N,gz,gc⟩:=pd d.o.m.ownL (k:=k) (x:=(la,g)) (by rw[T0,hk];rfl);replace gc:E.cell? ⟨gl,k,none⟩=some (slice (vl la) g.length g.length):=gc;rw[N]at c3;have ax:(k:Int)<(w.L.length:Int):=by omega
  have ag:((w.L.length:Int)==0)=false:=TT.2 (by omega);obtain⟨ra,rn,re⟩:=d.o.m.rng;have G:Xr (∀c,Calls prog 13 #[int i64 w.a,int i64 ((g.length:Int)+1)] c fun e u=>e=returned (int i64 (fw w.a (g.length+1):Nat))/\u=c):=fun c=>fF w.a (g.length+1) c ra ⟨by omega,by omega⟩;have ho:=hQ w.a (g.length+1) (by omega);obtain⟨o,Ho⟩:=bn (fw w.a (g.length+1));rw[Ho.o]at G ho;have H:Xr (∀c,Calls prog 13 #[int i64 w.n,int i64 ((g.length:Int)-(o:Int)+1)] c fun e u=>e=returned (int i64 (fw w.n (g.length-o+1):Nat))/\u=c):=fun c=>by
   rw[show(g.length:Int)-(o:Int)+1=((g.length-o+1:Nat):Int) by omega];exact fF w.n (g.length-o+1) c rn ⟨by omega,by omega⟩
  have hn:=hQ w.n (g.length-o+1) (by omega);obtain⟨n,Hn⟩:=bn (fw w.n (g.length-o+1));rw[Hn.o]at H hn;have I:Xr (∀c,Calls prog 13 #[int i64 w.e,int i64 ((g.length:Int)-(o:Int)-(n:Int)+1)] c fun e u=>e=returned (int i64 (fw w.e (g.length-o-n+1):Nat))/\u=c):=fun c=>by
   rw[show(g.length:Int)-(o:Int)-(n:Int)+1=((g.length-o-n+1:Nat):Int) by omega];exact fF w.e (g.length-o-n+1) c re ⟨by omega,by omega⟩
  have he:=hQ w.e (g.length-o-n+1) (by omega);obtain⟨e,He⟩:=bn (fw w.e (g.length-o-n+1));rw[He.o]at I he;have ac:Xr (∀y,cD y b x w S->oL y x w i Y af fs hd lo hi R O st->Calls prog 14 _ y _):=fun y a V=>a.loads hN V hk (o:=o) (n:=n) (e:=e) (by omega);clear C e1 e2 hk N ra rn re;go_upto_region 11 with fail
  go_quiet ((go_at_call 13;exact TZ (K.o _)));go_upto_region 12 with fail
  obtain⟨y,B⟩:=bn (E.drewN nq);rw[B.o];have r:Xr (iq y b D.heap.size x w S 8 m s L A t):=d.o.XD (by rw[<-B.o];exact kr0.drewN nq);clear T U o2 o3 o4 o5 X Z c1 c3 z1 d1 z2 d2 gz gc;have c5:y.cell? ⟨b,5,none⟩=some (int i64 w.a):=by rw[ah r.o.m.XR];rfl
  have c6:y.cell? ⟨b,6,none⟩=some (int i64 w.n):=by rw[ah r.o.m.XR];rfl
  have c7:y.cell? ⟨b,7,none⟩=some (int i64 w.e):=by rw[ah r.o.m.XR];rfl
  have f:Xr (oL y x w i Y af fs hd lo hi R O st):=ad.o.XD (by rw[<-B.o];exact kr0.drewN nq);have F:Xr _:=ac.o y r.o.m f.o;go_upto_region 13 with (go_at_call 13;refine Tr (G.o _) ?_;rintro q w4 ⟨rfl,j⟩;rw[j];clear j)
  go_upto_region 14 with (go_at_call 13;refine Tr (H.o _) ?_;rintro q w4 ⟨rfl,j⟩;rw[j];clear j)
  go_upto_region 15 with (go_at_call 13;refine Tr (I.o _) ?_;rintro q w4 ⟨rfl,j⟩;rw[j];clear j)
  go_wp2_with (go_at_call 14;refine Tr F.o ?_;rintro q w4 ⟨rfl,q1,⟨h',q2,q3⟩,q4⟩);go_ret;exact⟨rfl,r.o.m.both f.o.v f.o.i6 f.o.i7 q1 q2 (TG ⟨rfl,rfl⟩) (TG ⟨rfl,rfl⟩) q3 (Ih f.o.far f.o.p.lt q3) q4 (Nj f.o.ok _)⟩
structure nD where
 k:Int
 a:Int
 c:Int
 d:Int
 s:Xs
 t:Xs
def LQ(o:nD):List Value:=[int i64 o.k,int i64 o.a,int i64 o.c,int i64 o.d,string o.s,string o.t]
def iH(L:List nD):eQ:=lF 28 6 LQ L
theorem M9:(prog.info? 28).map (fun i=>(i.zero,i.size,i.bytes))=some (some (agg #[int i64 0,int i64 0,int i64 0,int i64 0,string ⟨#[]⟩,string ⟨#[]⟩]),6,64):=by kernel_rfl
theorem BE(o:nD):∀u∈LQ o,u.oneCell'=true:=by
 intro u a;simp only[LQ,List.mem_cons,List.not_mem_nil,or_false]at a;rcases a with rfl | rfl | rfl | rfl | rfl | rfl <;> rfl
structure Cw(X:nD->Prop)(o:nD):Prop where
 a:ri o.a
 c:ri o.c
 d:ri o.d
 s:o.s.size<=1073741824
 t:o.t.size<=1073741824
 k:(1<=o.k/\o.k<=10)∨(15<=o.k/\o.k<=18)∨X o
def mU(w:World)(ao:Xu)(l:List nD):Prop:=∀(i:Nat) (o:nD),l[i]?=some o->∃b off,ao=some ⟨b,off,none⟩/\b<w.heap.size/\∀(j:Nat) u,(LQ o)[j]?=some u->w.cell? ⟨b,off+i*6+j,none⟩=some u
theorem mU.XD{l:List nD}(h:mU H zt l)(k:ae [] H D):mU D zt l:=by
 intro i o f;obtain⟨b,a,e,c,d⟩:=h i o f;exact⟨b,a,e,Tv c k.size,fun j u g=>by rw[TN (k.block b c (by simp))];exact d j u g⟩
structure ze(o:nD):Prop where
 k:ri o.k
 a:ri o.a
 c:ri o.c
 d:ri o.d
 s:o.s.size<=140737488351232
 t:o.t.size<=140737488351232
def lD(l:List nD)(k:Nat):nD:=l.getD k ⟨0,0,0,0,⟨#[]⟩,⟨#[]⟩⟩
theorem mD(l:List nD)(k:Nat)(h:k<l.length):l[k]?=some (lD l k):=by
 unfold lD;rw[Tn,Tm h];rfl
def QM(l:List nD)(w:World)(e:Ending)(w':World):Prop:=(∃r,e=returned (bool r)/\(r=true->l.length<=1073741824/\∀i,i<l.length->(lD l i).s.size<=1073741824/\(lD l i).t.size<=1073741824))/\ae [] w w'
theorem Gs(l:List nD)(w:World)(O:l.length<=140737488351232)(j:mU w z0 l)(v:∀o∈l,ze o) :
  Calls prog 8 #[slice z0 l.length S] w fun e K=>QM l w e K:=by
 have x:Xr (mU w z0 l):=j;have q:Xr _:=v;clear j v;rcases kn 1073741824 l.length with ⟨B,n⟩ | ⟨B,n⟩
 ·go_enter func8,ntmps8;go_wp2;go_ret;exact⟨⟨false,rfl,by simp⟩,ae.refl _ _⟩
 ·go_enter func8,ntmps8;go_wp2
  go_loopg [3,4] l.length (fun g m i wr=>∃(k:Nat) (z:Int),k<=l.length/\g=l.length-k/\i=int i64 k/\m=int i64 z/\Xr (∀i,i<k->(lD l i).s.size<=1073741824/\(lD l i).t.size<=1073741824)/\0<=z/\z<=1073741824/\Xr (ae [] w wr))
  ·exact⟨0,l.length,by omega,by omega,rfl,rfl,fun i h=>by omega,by omega,by omega,ae.refl _ _⟩
  obtain⟨k,z,N,M,rfl,rfl,r,H,I,f⟩:=hrel;rcases kn k l.length with ⟨a,D⟩ | ⟨a,E⟩
  ·obtain⟨b,J,rfl,L,p⟩:=(mU.XD x.o f.o) k _ (mD l k a);have y:=p 4 _ rfl;have A:=p 5 _ rfl;have F:=(q.o (lD l k) (UZ (mD l k a))).s;have G:=(q.o (lD l k) (UZ (mD l k a))).t;obtain⟨o,u⟩:=bn (lD l k);rw[u.o]at y A F G;clear p;by_cases C:(1073741824:Int)<z+o.s.size+o.t.size
   ·(go_upto_region 7 with fail);go_quiet (fail);have c:Xr (ae [] w (wr.drewN nq)):=f.o.drewN nq;go_wp2;go_ret;exact⟨⟨false,rfl,by simp⟩,c.o⟩
   ·have d:Xr (∀i,i<k+1->(lD l i).s.size<=1073741824/\(lD l i).t.size<=1073741824):=fun i j=>by
     by_cases e:i=k
     ·rw[e,u.o];omega
     ·exact r.o i (by omega)
    (go_upto_region 7 with fail);go_quiet (fail);have c:Xr (ae [] w (wr.drewN nq)):=f.o.drewN nq;go_wp2;go_roundg (l.length-(k+1))
    ·exact⟨k+1,z+o.s.size+o.t.size,by omega,rfl,by go_num,rfl,d,by omega,by omega,c⟩
    omega
  ·have d:Xr (∀i,i<l.length->(lD l i).s.size<=1073741824/\(lD l i).t.size<=1073741824):=fun i j=>r.o i (by omega);go_wp2;go_ret;exact⟨⟨true,rfl,fun _=>⟨by omega,d.o⟩⟩,f.o⟩
theorem Lj(D:Int)(b t:Xs)(w:World)(Q:World->Prop)(f:∀W,ae [] w W->Calls prog 12 #[pointer (some ⟨S,0,none⟩),agg #[int i64 m,int i64 s,int i64 L,int i64 D,string b,string t]] W fun e c=>e=returned (bool true)/\Q c) :
  Calls prog 10 #[pointer (some ⟨S,0,none⟩),agg #[int i64 m,int i64 s,int i64 L,int i64 D,string b,string t]] w fun e c=>e=returned (bool true)/\Q c:=by
 obtain⟨W,a⟩:=bn (w.alloc (.cells #[int i64 m,int i64 s,int i64 L,int i64 D,string b,string t] 28));have g:=fH a.o;have d:=f8 a.o;obtain⟨k,l,n,p,q,r,u⟩:=du d;have i:Xr _:=f W g;clear d f g;go_enter func10,ntmps10;go_upto_region 1 with fail
 rw[a.o];go_wp2_with (go_at_call 12;refine Tr i.o ?_;rintro e v ⟨rfl,j⟩);go_ret;exact⟨rfl,j⟩
def SF(w0:World)(h:Hd)(L:List nD):It where
 B:=List.range w0.heap.size++h.XR.toList
 P w:=ae [] w0 w/\aB w h (iH L)
 lt w a q hq:=by
  rcases Uf.1 hq with e | e
  ·exact Tv (TF.1 e) a.1.size
  ·exact a.2.lt (aQ e)
 ok S w w' a k hb:=by
  refine⟨⟨k.os.trans a.1.os,k.tape.trans a.1.tape,k.output.trans a.1.output,TE a.1.size k.size,fun q hq _=>?_⟩,a.2.XI (fun q hq=>k.block q (a.2.lt hq) (hb q (UU _ (by rw[hq];simp))))⟩;rw[k.block q (Tv hq a.1.size) (hb q (UC _ (TF.2 hq)))];exact a.1.block q hq (by simp)
def Sx:It where
 B:=[]
 P _:=True
 lt _ _ q hq:=by cases hq
 ok _ _ _ _ _ _:=trivial
def Rl:Mc:=⟨⟨none,0⟩,⟨none,0⟩,⟨none,0⟩,⟨none,0⟩,⟨none,0⟩,[],[],[],0,0,0,0,⟨#[]⟩,0,0,⟨#[]⟩,0,0,slice none 0 0,slice none 0 0⟩
theorem Jv:(Instr.build 42 #[]).run prog u=.ok (agg Rl.cells.toArray) u :=
 run_build u 42 _ _ (by kernel_rfl)
theorem Ot(X:nD->Prop)(P:World)(h:Hd)(L:List nD)(w:World)(hL:L.length<=1073741824)(m:∀i,i<L.length->Cw X (lD L i))(J:Nat->World->Prop)(I:∀W,ae [] w W->W.heap[w.heap.size]?=some (.cells Rl.cells.toArray 42)->J 0 W)(N:∀n wr,J n wr->ae [] P wr/\aB wr h (iH L))(K:∀n wr Q,J n wr->ae [] wr Q->J n Q)(O:∀n wr o,J n wr->n<=1073741824->Cw X o->Calls prog 10 #[pointer (some ⟨w.heap.size,0,none⟩),agg #[int i64 o.k,int i64 o.a,int i64 o.c,int i64 o.d,string o.s,string o.t]] wr fun e p=>e=returned (bool true)/\J (n+1) p)(M:∀n wr,J n wr->n<=1073741825->Calls prog 11 #[pointer (some ⟨w.heap.size,0,none⟩)] wr fun e p=>e=returned (bool true)/\ae [] wr p) :
  Calls prog 9 #[slice h.ao L.length h.cap] w fun e p=>e=returned (int i64 (-1))/\ae [] P p:=by
 obtain⟨F,H⟩:=h;obtain⟨W,r⟩:=bn (w.alloc (.cells Rl.cells.toArray 42));have A:Xr (J 0 W):=I W (by rw[<-r.o];exact kr0.alloc _) (by rw[<-r.o];exact Ts _ _);have C:Xr _:=m;have y:Xr _:=N;have v:Xr _:=K;have z:Xr _:=O;have x:Xr _:=M;have T:=Jv;have G:Xr (Rl.cells.toArray=#[slice none 0 0,slice none 0 0,slice none 0 0,slice none 0 0,slice none 0 0,int i64 0,int i64 0,int i64 0,int i64 0,string ⟨#[]⟩,int i64 0,int i64 0,string ⟨#[]⟩,int i64 0,int i64 0,slice none 0 0,slice none 0 0]):=rfl;rw[G.o]at r;simp only[G.o]at T;clear I N K O M m;go_enter func9,ntmps9;go_upto_region 2 with fail
 rw[r.o];go_wp2
 go_loopg [4] L.length (fun g i wr=>∃k:Nat,k<=L.length/\g=L.length-k/\i=int i64 k/\Xr (J k wr))
 ·exact⟨0,by omega,rfl,rfl,A⟩
 obtain⟨k,hk,hg,rfl,q⟩:=hrel;have u:=y.o k wr q.o;rcases kn k L.length with ⟨l,Z⟩ | ⟨l,ac⟩
 ·obtain⟨V,E,Y,j⟩:=(aB.srcG (f:=LQ) u.2 (fun _=>rfl)) k _ (mD L k l);have U:=j 0 _ rfl;have c1:=j 1 _ rfl;have c2:=j 2 _ rfl;have c3:=j 3 _ rfl;have c4:=j 4 _ rfl;have c5:=j 5 _ rfl;have D:Xr _:=(z.o k wr (lD L k) q.o (by omega) (C.o k l));generalize lD L k=o at *;rw[Vd]at U;replace E:F=some ⟨V,0,none⟩:=E;subst E;clear u j q;go_upto_region 6 with (go_at_call 10;refine Tr D.o ?_;rintro e w1 ⟨rfl,b⟩)
  have S:Xr _:=(x.o (k+1) w1 b (by omega));have B:Xr _:=b;clear b;go_wp2_with (go_at_call 11;refine Tr S.o ?_;rintro e w2 ⟨rfl,k2⟩);go_roundg (L.length-(k+1))
  ·exact⟨k+1,by omega,rfl,by go_num,v.o _ _ _ B.o k2⟩
  omega
 ·have R:Xr _:=u.1;clear u q;go_wp2;go_ret;exact⟨rfl,R.o⟩
theorem Kq{L:List nD}{o:nD}{p:nD->Prop}(h:∀i,i<L.length->p (lD L i))(b:p o):∀i,i<(L++[o]).length->p (lD (L++[o]) i):=by
 intro i a;rw[Tu]at a;replace a:i<L.length+1:=a;unfold lD;rw[Tn];by_cases e:i<L.length
 ·have:=h i e;unfold lD at this;rw[Tn]at this;rw[TP e];exact this
 ·rw[TI (by omega),show i-L.length=0 by omega];exact b
def Cq(K:List Int)(k:Int)(q:Nat):Bool:=((decide (1<=k)&&decide (k<=10))||(decide (15<=k)&&decide (k<=18)))||(K.take q).any (fun x=>k==x)
theorem xM(h:g<1∨(10<g/\g<15)∨18<g):Cq p g 0=false:=by
 unfold Cq;rw[VQ,List.any_nil,Vc];simp;omega
theorem Dj(h:(1<=g/\g<=10)∨(15<=g/\g<=18))(q:Nat):Cq p g q=true:=by
 unfold Cq;have:((decide (1<=g)&&decide (g<=10))||(decide (15<=g)&&decide (g<=18)))=true:=by simp;omega
 rw[this];rfl
theorem M7(K:List Int)(k:Int)(q:Nat)(h:q<K.length):Cq K k (q+1)=(Cq K k q||(k==K[q])):=by
 unfold Cq;rw[Wr,Tm h,Xo,<-V6];simp
theorem Po(h:Cq p g T=true):((1<=g/\g<=10)∨(15<=g/\g<=18))∨g∈p:=by
 unfold Cq at h;rw[Uk]at h;rcases h with h | h
 ·left;simp at h;omega
 ·right
  obtain⟨x,a,b⟩:=Us.1 h;rw[Wg b];exact Vk a
def xa(w:World)(ka:Xu)(K:List Int):Prop:=∀q (hq:q<K.length),∃kb,ka=some ⟨kb,0,none⟩/\kb<w.heap.size/\w.cell? ⟨kb,q,none⟩=some (int i64 K[q])
theorem xa.XD(h:xa H zt p)(k:ae [] H D):xa D zt p:=fun q b=>by
 obtain⟨a,e,z,c⟩:=h q b;exact⟨a,e,Tv z k.size,by rw[TN (k.block a z (by simp))];exact c⟩
theorem xa.of(h:H.heap[T]?=some (.cells (p.map (int i64)).toArray 3)):xa H (some ⟨T,0,none⟩) p:=fun q a=>⟨T,rfl,aj h,by rw[ah h];simp[a]⟩
theorem Ku(X:nD->Prop)(S:Xu)(G:Nat)(l:List nD)(K:List Int)(V:Xu)(w:World)(hl:l.length<=140737488351232)(hi:mU w S l)(ho:∀o∈l,ze o)(J:xa w V K)(aS:K.length<=100)(hK:∀o∈l,o.k∈K->X o)(hU:∀h L wr,ae [] w wr->aB wr h (iH L)->L.length<=1073741824->(∀i,i<L.length->Cw X (lD L i))->Calls prog 9 #[slice h.ao L.length h.cap] wr fun e w'=>e=returned (int i64 (-1))/\ae [] w w') :
  Calls prog 6 #[slice S l.length G,slice V K.length K.length] w fun e w'=>e=returned (bool true)/\ae [] w w':=by
 have ai:Xr _:=Gs S G l w hl hi ho;have HI:Xr (mU w S l):=hi;have HO:Xr _:=ho;have W:Xr (xa w V K):=J;have Y:Xr _:=hK;have ap:Xr _:=hU;obtain⟨iX,ax,P,Q,R⟩:=TY M9;clear hi ho J hK hU;go_enter func6,ntmps6;go_upto_region 2 with (go_at_call 8;refine Tr ai.o ?_;rintro e w1 ⟨⟨r,rfl,hr⟩,k1⟩)
 have D:Xr _:=k1;have HR:Xr _:=hr;clear k1 hr;cases r
 ·go_wp2;go_ret;exact⟨rfl,D.o⟩
 ·obtain⟨a2,N⟩:=HR.o rfl;have al:Xr _:=N;have ac:Xr (io w w1 ⟨none,0⟩ (iH [])):=⟨Tw _ _ _ _,(by intro k hk;cases hk),D.o⟩;clear N HR;go_wp2
  go_loopg [6,7] l.length (fun g lv iv wr=>∃(k:Nat) (x:Hd) (L:List nD),k<=l.length/\g=l.length-k/\lv=slice x.ao L.length x.cap/\iv=int i64 k/\L.length<=k/\Xr (∀i,i<L.length->Cw X (lD L i))/\Xr (io w wr x (iH L)))
  ·exact⟨0,⟨none,0⟩,[],by omega,rfl,rfl,rfl,by simp,(fun i h=>by cases h),ac⟩
  obtain⟨k,x,L,hk,hg,rfl,rfl,aT,v,u⟩:=hrel;rcases kn k l.length with ⟨s,a1⟩ | ⟨s,a3⟩
  ·obtain⟨b,a7,rfl,hb,y⟩:=(mU.XD HI.o u.o.XQ) k _ (mD l k s);have m:=UZ (mD l k s);have I:=HO.o (lD l k) m;have M:=Y.o (lD l k) m;have c0:=y 0 _ rfl;have c1:=y 1 _ rfl;have c2:=y 2 _ rfl;have c3:=y 3 _ rfl;have c4:=y 4 _ rfl;have c5:=y 5 _ rfl;rw[Vd]at c0;have O:=al.o k s;have t:Xr _:=I;have F:Xr _:=O;have Z:Xr _:=M;have ag:Xr (xa wr V K):=xa.XD W.o u.o.XQ;generalize lD l k=o at *;clear y I O M m;have ar:=u.o.X6;have av:Xr ((iH L).n<=4294967296):=(by show L.length<=_;omega);have E:Xr ((iH L).n=L.length):=rfl
   have C:Xr (Cq K o.k K.length=true->Cw X o):=fun q=>⟨t.o.a,t.o.c,t.o.d,F.o.1,F.o.2,by
    rcases Po q with (q | q) | q
    ·exact TG q
    ·exact TA (TG q)
    ·exact TA (TA (Z.o q))⟩
   have z:(o.k<1/\Xr (Cq K o.k 0=false))∨((10<o.k/\o.k<15)/\Xr (Cq K o.k 0=false))∨(18<o.k/\Xr (Cq K o.k 0=false))∨((1<=o.k/\o.k<=10)/\Xr (Cq K o.k 0=true))∨((15<=o.k/\o.k<=18)/\Xr (Cq K o.k 0=true)):=by
    by_cases z1:o.k<1
    ·exact TG ⟨z1,xM (TG z1)⟩
    ·by_cases z2:o.k<=10
     ·exact TA (TA (TA (TG ⟨⟨by omega,z2⟩,Dj (TG ⟨by omega,z2⟩) 0⟩)))
     ·by_cases z3:o.k<15
      ·exact TA (TG ⟨⟨by omega,z3⟩,xM (TA (TG ⟨by omega,z3⟩))⟩)
      ·by_cases z4:o.k<=18
       ·exact TA (TA (TA (TA ⟨⟨by omega,z4⟩,Dj (TA ⟨by omega,z4⟩) 0⟩)))
       ·exact TA (TA (TG ⟨by omega,xM (TA (TA (by omega)))⟩))
   rcases z with ⟨T,f⟩ | ⟨⟨T,h2⟩,f⟩ | ⟨T,f⟩ | ⟨⟨T,h2⟩,f⟩ | ⟨⟨T,h2⟩,f⟩
   all_goals
    go_wp2
    go_loopg [9,10] K.length (fun g a j w2=>∃q:Nat,q<=K.length/\g=K.length-q/\a=bool (Cq K o.k q)/\j=int i64 q/\wr=w2)
    ·exact⟨0,by omega,rfl,congrArg bool (by rw[f.o] <;> simp <;> omega),rfl,rfl⟩
    obtain⟨q,hq,a0,rfl,rfl,rfl⟩:=hrel;rcases kn q K.length with ⟨A,a4⟩ | ⟨A,-⟩
    ·obtain⟨kb,rfl,a6,cq⟩:=ag.o q A;have p:Xr _:=M7 K o.k q A;generalize K[q]=kq at *;cases U:Cq K o.k q
     ·rw[U,UM]at p;go_wp2;go_roundg (K.length-(q+1))
      ·exact⟨q+1,by omega,rfl,congrArg bool p.o.symm,by go_num,rfl⟩
      omega
     ·rw[U,Vn]at p;go_wp2;go_roundg (K.length-(q+1))
      ·exact⟨q+1,by omega,rfl,congrArg bool p.o.symm,by go_num,rfl⟩
      omega
    ·have az:q=K.length:=(by omega);subst az;have a5:¬(K.length:Int)<K.length:=by omega
     cases U:Cq K o.k K.length
     ·go_wp2;go_roundg (l.length-(k+1))
      ·exact⟨k+1,x,L,by omega,rfl,rfl,by go_num,by omega,v,u⟩
      omega
     ·have af:Xr _:=C.o U;go_wp2_with (at_builtin;refine dx wr rfl (.tmp 57) (.tmp 62) 22 rfl iX (agg #[int i64 0,int i64 0,int i64 0,int i64 0,string ⟨#[]⟩,string ⟨#[]⟩]) 64 x (iH L) (LQ o) underlying22 ax P Q R rfl (show 0<6 by omega) (by rw[E.o];simp[Act.eval]) ar av.o (by omega) (by simp[Act.eval]) rfl (BE o) ?_;intro h5 w5 B H;rw[iH,iz]at B;have ad:Xr _:=u.o.XN H B;clear B H);go_roundg (l.length-(k+1))
      ·exact⟨k+1,h5,L++[o],by omega,rfl,by rw[E.o,Tu];rfl,by go_num,by rw[Tu];show _+1<=_;omega,Kq v.o af.o,ad⟩
      omega
  ·have an:Xr _:=ap.o x L wr u.o.XQ u.o.X6 (by omega) v.o;go_wp2_with (go_at_call 9;refine Tr an.o ?_;rintro e w5 ⟨rfl,k5⟩);go_ret;exact⟨rfl,k5⟩
set_option maxRecDepth 512
theorem so(d:Xu)(q r:Nat)(L:Xt)(w:World)(j:ic w z0 L)(l:ic w d L)(F:L.length<=4294967296) :
  Calls prog 26 #[slice z0 L.length q,slice d L.length r] w fun e u=>e=returned (bool true)/\∃n,u=w.drewN n:=by
 have m:Xr (ic w z0 L):=j;have p:Xr (ic w d L):=l;clear j l;go_enter func26,ntmps26;go_wp2
 go_loopg [5] L.length (fun g i wr=>∃k:Nat,k<=L.length/\g=L.length-k/\i=int i64 k/\Xr (∃n,wr=w.drewN n))
 ·exact⟨0,by omega,by omega,rfl,0,rfl⟩
 obtain⟨k,E,D,rfl,b⟩:=hrel;have f:Xr (ae [] w wr):=by show ae _ _ _;obtain⟨n,e⟩:=b.o;rw[e];exact(ae.refl [] w).drewN n
 rcases kn k L.length with ⟨a,s⟩ | ⟨a,t⟩
 ·obtain⟨z,rfl,B,v⟩:=(ic.XD m.o f.o) k _ (Tm a);obtain⟨A,rfl,C,y⟩:=(ic.XD p.o f.o) k _ (Tm a);generalize L[k]=x at *;go_upto_region 6 with fail
  go_quiet (fail);have c:Xr (∃n,wr.drewN nq=w.drewN n):=by show ∃_,_;obtain⟨n,e⟩:=b.o;exact⟨n+nq,by rw[e,Ws]⟩
  go_wp2;go_roundg (L.length-(k+1))
  ·exact⟨k+1,by omega,rfl,by go_num,c⟩
  omega
 ·go_wp2;go_ret;exact⟨rfl,b.o⟩
def vf(bo:Option Nat)(L:Xt):It where
 B:=bo.toList
 P w:=qn w bo L
 lt w a q hq:=by
  cases bo with
  | none=>cases hq
  | some b=>rw[WZ,TH]at hq;rw[hq];exact aj (a.XR b rfl)
 ok S w w' a k hb:=⟨a.nil,fun b e=>k.get (a.XR b e) (hb b (by rw[e];simp))⟩
theorem wL(h:T∈(vf M I).B):M=some T:=by
 replace h:T∈M.toList:=h;cases M with
 | none=>cases h
 | some g=>rw[WZ,TH]at h;rw[h]
theorem qn.srcX(h:qn H M I):ic H (vl M) I:=by
 intro k x a;cases M with
 | none=>rw[h.nil.1 rfl]at a;cases a
 | some b =>
  have c:=h.XR b rfl;exact⟨b,rfl,aj c,by rw[ah c];simp[dK,a]⟩
abbrev Tx:=Option Nat×Hd×List ByteArray
def Qs(t:Tx):List Value:=[slice (vl t.1) t.2.2.length t.2.2.length,slice t.2.1.ao t.2.2.length t.2.1.cap]
def m8(TS:List Tx):eQ:=lF 63 2 Qs TS
structure SS(I:Nat×Nat->It)(tv:Value)(ht:Hd)(TS:List Tx)(N:Nat):Prop where
 e:tv=slice ht.ao TS.length ht.cap
 r:I (11,0)=b8 ht (m8 TS)
 l:∀k bo h L,TS[k]?=some (bo,h,L)->I (12,k)=vf bo L/\I (13,k)=b8 h (aE L)/\L.length<=900000000
 n:TS.length<=3*N
structure cI(w:World)(b:Nat)(I:Nat×Nat->It)(M:Mc)(ht:Hd)(TS:List Tx)(N:Nat):Prop where
 m:cD w b I M N
 q:M.qv=slice none 0 0
 t:SS I M.tv ht TS N
theorem cI.XD{a:List Tx}(h:cI H T d k v a y)(b:ae [] H D):cI D T d k v a y:=⟨h.m.XD b,h.q,h.t⟩
theorem cI.more{a:List Tx}(h:cI H T d k v a y):cI H T d k v a (y+1):=⟨h.m.more,h.q,{ h.t with n:=by have:=h.t.n;omega }⟩
def pY(b:Nat)(I:Nat×Nat->It)(N:Nat)(e:Ending)(w':World):Prop:=e=returned (bool true)/\∃I' M' ht' TS',cI w' b I' M' ht' TS' (N+1)/\∀j i,j=10∨(14<=j/\j<=16)->I' (j,i)=I (j,i)
theorem cI.up{c:List Tx}(h:cI H T d k v c y)(s:jg T d k y true y0 D):pY T d y y0 D:=by
 obtain⟨m,e,f,o,a⟩:=s;refine⟨m,e,f,v,c,⟨o,a.q.trans h.q,⟨a.t.trans h.t.e,(a.k 11 0 (by decide)).trans h.t.r,fun b g p L u=>?_,by have:=h.t.n;omega⟩⟩,fun j i w=>a.k j i (by omega)⟩;rw[a.k 12 b (by decide),a.k 13 b (by decide)];exact h.t.l b g p L u
theorem cI.rowOwn{a:List Tx}(h:cI H T d k v a y):aB H v (m8 a):=by have:=h.m.sep.all (11,0);rw[h.t.r]at this;exact this
theorem cI.c16{a:List Tx}(h:cI H T d k v a y):H.cell? ⟨T,16,none⟩=some (slice v.ao a.length v.cap):=by rw[ah h.m.XR,<-h.t.e];rfl
theorem cI.at_{j:List Tx}(h:cI H T d k v j y)(s:i<j.length):∃b a L g,j[i]?=some (b,a,L)/\(v.ao=some ⟨g,0,none⟩/\g<H.heap.size/\H.cell? ⟨g,i*2,none⟩=some (slice (vl b) L.length L.length)/\H.cell? ⟨g,i*2+1,none⟩=some (slice a.ao L.length a.cap))/\qn H b L/\aB H a (aE L)/\L.length<=900000000:=by
 obtain⟨⟨b,a,L⟩,e⟩:∃x,j[i]?=some x:=⟨j[i],Tm s⟩
 obtain⟨g,r,z,c⟩:=(aB.srcG (f:=Qs) h.rowOwn (fun _=>rfl)) i _ e;obtain⟨p,q,u⟩:=h.t.l i b a L e;have n:=h.m.sep.all (12,i);have o:=h.m.sep.all (13,i);rw[p]at n;rw[q]at o;exact⟨b,a,L,g,e,⟨r,z,c 0 _ rfl,c 1 _ rfl⟩,n,o,u⟩
set_option maxRecDepth 100000
theorem J3(p:List Tx)(j:World)(h:cI j b x w N p S)(hN:S<=1073741825) :
  Calls prog 11 #[pointer (some ⟨b,0,none⟩)] j fun e G=>e=returned (bool true)/\ae [] j G:=by
 have X:Xr (cI j b x w N p S):=h;have W:Xr (cD j b x w S):=h.m;have Y:j.cell? ⟨b,15,none⟩=some (slice none 0 0):=by rw[ah h.m.XR,<-h.q];rfl
 have ac:=h.m.len.2.2;have ad:=h.t.n;clear h;go_enter func11,ntmps11;go_wp2
 go_loopg [3] 0 (fun g i wr=>g=0/\i=int i64 0/\j=wr)
 ·exact⟨rfl,rfl,rfl⟩
 obtain⟨K,rfl,rfl⟩:=hrel;go_wp2
 go_loopg [5] p.length (fun g i wr=>∃k:Nat,k<=p.length/\g=p.length-k/\i=int i64 k/\Xr (ae [] j wr))
 ·exact⟨0,by omega,rfl,rfl,ae.refl _ _⟩
 obtain⟨k,hk,ag,rfl,s⟩:=hrel;have z:Xr (cI wr b x w N p S):=X.o.XD s.o;have I:=z.o.c16;by_cases y:k<p.length
 ·obtain⟨Q,J,L,g,-,⟨K,gz,g0,g1⟩,U,T,hl⟩:=z.o.at_ y;rw[K]at I;have v:Xr (∀n,Calls prog 26 #[slice (vl Q) L.length L.length,slice J.ao L.length J.cap] (wr.drewN n) fun e G=>e=returned (bool true)/\∃m,G=(wr.drewN n).drewN m):=fun n=>so (vl Q) J.ao _ _ L (wr.drewN n) (ic.XD U.srcX (kr0.drewN n)) (ic.XD T.srcX (kr0.drewN n)) (by omega);have M:(k:Int)<p.length:=by omega
  clear U T K;go_upto_region 10 with fail
  go_quiet ((go_at_call 26;exact WW (v.o _)));have u:Xr (ae [] j (wr.drewN nq)):=s.o.drewN nq;go_wp2;go_roundg (p.length-(k+1))
  ·exact⟨k+1,by omega,rfl,by go_num,u⟩
  omega
 ·have O:¬(k:Int)<p.length:=by omega
  have H:Xr _:=s.o;clear s;go_wp2
  go_loopg [7] w.L.length (fun g i wr=>∃k:Nat,k<=w.L.length/\g=w.L.length-k/\i=int i64 k/\Xr (ae [] j wr))
  ·exact⟨0,by omega,rfl,rfl,H⟩
  obtain⟨k,hk,ai,rfl,s⟩:=hrel;have d:Xr (cD wr b x w S):=W.o.XD s.o;have Z:wr.cell? ⟨b,3,none⟩=some (slice w.hl.ao w.L.length w.hl.cap):=by rw[ah d.o.XR];rfl
  have c4:wr.cell? ⟨b,4,none⟩=some (slice w.hc.ao w.L.length w.hc.cap):=by rw[ah d.o.XR];rfl
  by_cases y:k<w.L.length
  ·obtain⟨⟨a,c,f⟩,r⟩:∃P,w.L[k]?=some P:=⟨w.L[k],Tm y⟩
   obtain⟨A,B,-,af⟩:=d.o.l k a c f r;obtain⟨gl,E,gz,R⟩:=pd d.o.ownL (k:=k) (x:=(a,f)) (by rw[T0,r];rfl);obtain⟨gr,F,rz,V⟩:=pd d.o.ownC (k:=k) (x:=(c,f)) (by rw[T0,r];rfl);replace R:wr.cell? ⟨gl,k,none⟩=some (slice (vl a) f.length f.length):=R;replace V:wr.cell? ⟨gr,k,none⟩=some (slice (vl c) f.length f.length):=V;rw[E]at Z;rw[F]at c4;have C:jo wr a f:=(by have:=d.o.sep.all (8,k);rw[A]at this;exact this);have D:jo wr c f:=(by have:=d.o.sep.all (9,k);rw[B]at this;exact this);have v:Xr (∀n,Calls prog 27 #[slice (vl a) f.length f.length,slice (vl c) f.length f.length] (wr.drewN n) fun e G=>e=returned (bool true)/\∃m,G=(wr.drewN n).drewN m):=fun n=>oE (vl a) (vl c) _ _ f (wr.drewN n) (lC.XQ C.src (kr0.drewN n) (by simp)) (lC.XQ D.src (kr0.drewN n) (by simp)) (by omega);have M:(k:Int)<(w.L.length:Int):=(by omega);clear r A B E F C D;(go_upto_region 16 with fail);go_quiet ((go_at_call 27;exact WW (v.o _)));have u:Xr (ae [] j (wr.drewN nq)):=s.o.drewN nq;go_wp2;go_roundg (w.L.length-(k+1))
   ·exact⟨k+1,by omega,rfl,by go_num,u⟩
   omega
  ·have O:¬(k:Int)<(w.L.length:Int):=(by omega);go_wp2;go_ret;exact⟨rfl,s.o⟩
theorem Ra:(prog.info? 63).map (fun i=>(i.zero,i.size,i.bytes))=some (some (agg #[slice none 0 0,slice none 0 0]),2,48):=by kernel_rfl
theorem cD.retv(h:cD H T d k y)(s:ou D z6)(v:Value)(e:z6 (0,0)=sP T 42 ({ k with tv:=v }:Mc).cells)(a:∀j i,0<j->j<10->z6 (j,i)=d (j,i)):cD D T z6 { k with tv:=v } y:={
 sep:=s
 w0:=e
 x:=by rw[a 1 0 (by decide) (by decide)];exact h.x
 m:=by rw[a 2 0 (by decide) (by decide)];exact h.m
 r:=by rw[a 3 0 (by decide) (by decide)];exact h.r
 ls:=by rw[a 4 0 (by decide) (by decide)];exact h.ls
 lw:=by rw[a 5 0 (by decide) (by decide)];exact h.lw
 v:=fun i x m b c=>by rw[a 6 i (by decide) (by decide),a 7 i (by decide) (by decide)];exact h.v i x m b c
 l:=fun i x m b c=>by rw[a 8 i (by decide) (by decide),a 9 i (by decide) (by decide)];exact h.l i x m b c
 fit:=h.fit
 len:=h.len
 rng:=h.rng }
theorem yS{a:It}(b:10<=T)(c:i<10):ed d (T,y) a (i,z5)=d (i,z5):=Tj _ _ (bm (by omega))
theorem cI.re{b:List Tx}(h:cI H T d k v b y)(s:ou D z6)(a:∀j i,j<12∨(j<14/\i<b.length)->z6 (j,i)=d (j,i)):cI D T z6 k v b y:=by
 refine⟨h.m.retv s k.tv (by rw[a 0 0 (by omega)];exact h.m.w0) (fun j i _ c=>a j i (by omega)),h.q,⟨h.t.e,by rw[a 11 0 (by omega)];exact h.t.r,fun j f g L c=>?_,h.t.n⟩⟩;have o:=(Tz.1 c).1;rw[a 12 j (by omega),a 13 j (by omega)];exact h.t.l j f g L c
theorem cI.lay{f:List Tx}(h:cI H T d k v f y)(b:It){a c:Nat}(p:(12<=a/\c=f.length)∨14<=a)(o:ae [] H D)(l:b.P D)(g:∀q,q∈b.B->H.heap.size<=q):cI D T (ed d (a,c) b) k v f y :=
 h.re (h.m.sep.put (a,c) b (o.mono (by simp)) l (fun q n=>TA (g q n))) (fun j i r=>Tj _ _ (fun e=>by cases e;omega))
theorem cI.add{b:List Tx}{n:Hd}(h:cI H T d k v b y)(u:d (12,b.length)=vf M I)(w:d (13,b.length)=b8 n (aE I))(F:I.length<=900000000)(G:b.length+1<=3*y)(g:bq H D v t)(o:aB D t (m8 (b++[(M,n,I)]))) :
  ∃A J z f,cI (D.setCell ⟨T,16,none⟩ (slice t.ao (b.length+1) t.cap)) T A { k with tv:=J } z f y/\f.length=b.length+1/\∀j i,(0<j/\j<=10)∨14<=j->A (j,i)=d (j,i):=by
 have s:=h.m.sep.grown h.m.w0 (bm (by decide)) h.t.r g o 16 (slice t.ao (b.length+1) t.cap);have m:=h.m.retv s (slice t.ao (b.length+1) t.cap) (bA _ _ _) (fun j i K E=>by rw[Tj _ _ (bm (by omega)),yS (by decide) E]);have q:∀a i,11<a->ed (ed d (11,0) (b8 t (m8 (b++[(M,n,I)])))) (0,0) (sP T 42 (k.cells.set 16 (slice t.ao (b.length+1) t.cap))) (a,i)=d (a,i):=fun a i L=>by rw[Tj _ _ (bm (by omega)),Tj _ _ (bm (by omega))]
 refine⟨_,_,t,b++[(M,n,I)],⟨m,h.q,⟨by rw[Tu];rfl,by rw[Tj _ _ (bm (by decide))];exact bA _ _ _,fun j p x B c=>?_,?_⟩⟩,Tu,?_⟩
 ·rw[q 12 j (by decide),q 13 j (by decide)];by_cases e:j<b.length
  ·rw[TP e]at c;exact h.t.l j p x B c
  ·have C:j=b.length:=by
    have:=(Tz.1 c).1;rw[Tu]at this;have:j<b.length+1:=this;omega
   subst C;rw[TI (Tp _),Uy]at c;cases c
   exact⟨u,w,F⟩
 ·rw[Tu];exact G
 ·intro j i c;rw[Tj _ _ (bm (by omega)),Tj _ _ (bm (by omega))]
def RY(b:Nat)(I:Nat×Nat->It)(M:Mc)(n N:Nat)(e:Ending)(w':World):Prop:=e=returned (bool true)/\∃I' v ht' TS',cI w' b I' { M with tv:=v } ht' TS' N/\TS'.length=n/\∀j i,(0<j/\j<=10)∨14<=j->I' (j,i)=I (j,i)
def Cy(b:Nat)(I:Nat×Nat->It)(M:Mc)(n N:Nat)(e:Ending)(w':World):Prop:=e=returned (bool true)/\∃I' v ht' TS',cI w' b I' { M with tv:=v } ht' TS' N/\TS'.length=n/\∀j i,(0<j/\j<=10)∨(14<=j/\j<=16)->I' (j,i)=I (j,i)
theorem Cy.ms(h:Cy T d k y (i+1) y0 H):pY T d i y0 H:=by
 obtain⟨e,c,v,b,a,f,-,g⟩:=h;exact⟨e,c,_,b,a,f,fun j l m=>g j l (by omega)⟩
theorem zX(c:List Tx)(s:Option Nat)(y:Hd)(L:Xt)(C:World)(h:cI C b x w N c S)(hN:S<=1073741825)(hn:c.length+1<=3*S)(D:x (12,c.length)=vf s L)(hO:aB C y (aE L))(hl:L.length<=900000000) :
  Calls prog 42 #[pointer (some ⟨b,0,none⟩),slice (vl s) L.length L.length,slice y.ao L.length y.cap] C fun e w'=>RY b x w (c.length+1) S e w':=by
 have hX:qn C s L:=by have:=h.m.sep.all (12,c.length);rw[D]at this;exact this
 have P:Xr _:=(so (vl s) y.ao L.length y.cap L C hX.srcX hO.srcX (by omega));have HM:Xr (cI C b x w N c S):=h;have ap:Xr _:=D;have HO:Xr (aB C y (aE L)):=hO;obtain⟨iS,a4,ac,af,ag⟩:=TY ke;obtain⟨iT,a5,ai,al,an⟩:=TY Ra;have av:Xr _:=hn;have F:Xr (y.ao=none->L.length=0/\y.cap=0):=fun e=>by
  rcases hO.XO with ⟨v,e2,e3⟩ | ⟨g,aS,v,-⟩
  ·exact⟨e2,by rw[v]⟩
  ·rw[e]at v;cases v
 have Y:Xr (∀u∈dK L,u.oneCell'=true):=fun u hu=>by
  obtain⟨bd,-,rfl⟩:=UF.1 hu;rfl
 have X:Xr ((dK L).length=L.length*1):=cg (by rw[dK,TR,Xq]);have p:(L.length=0/\vl s=none)∨L.length≠0:=by
  by_cases e:L=[]
  ·exact TG ⟨by rw[e];rfl,by rw[hX.nil.2 e];rfl⟩
  ·exact TA (fun e2=>e (VR.1 e2))
 have a0:∀w',aB w' ⟨none,0⟩ (aE []):=fun w'=>Tw _ _ _ _;have a2:Xr ((m8 c).n<=4294967296):=by show c.length<=_;omega
 have Q:Xr ((m8 c).n=c.length):=rfl;have a7:Xr ((⟨(aE []).e,(aE []).size,(aE []).n+L.length,(aE []).xs++dK L⟩:eQ)=aE L):=by show eQ.mk _ _ (0+L.length) ([]++dK L)=_;rw[Vq];rfl
 have aT:Xr ((aE []).n+L.length<=1000000000):=by show 0+L.length<=_;omega
 have a6:Xr ((aE []).n+L.length=L.length):=Vq _;clear h hX D;have f:((((L.length:Int)==0)=true/\vl s=none))∨((L.length:Int)==0)=false:=by
  rcases p with ⟨h0,hn⟩ | h0
  ·exact TG ⟨by rw[h0];rfl,hn⟩
  ·exact TA (TT.2 (by omega))
 clear p;obtain⟨ra,R⟩:=bn (vl s);rw[R.o]at P f ⊢;have ax:Xr (∀k:Hd,Qs (s,k,L)=[slice ra L.length L.length,slice k.ao L.length k.cap]):=fun k=>by rw[<-R.o];rfl
 obtain⟨l,A⟩:=y;rcases f with ⟨h0,rfl⟩ | h0
 all_goals
  go_enter func42,ntmps42;go_upto_region 2 with (go_at_call 26;refine Tr P.o ?_;rintro e w1 ⟨rfl,n1,Z⟩;have M:Xr (ae [] C w1):=(by show ae _ _ _;rw[Z];exact kr0.drewN n1);clear Z)
  have O:Xr (aB w1 ⟨l,A⟩ (aE L)):=HO.o.XD M.o;have a3:Xr (∀ad,l=some ad->∀j u,(dK L)[j]?=some u->w1.cell? (ad.add j)=some u):=fun ad e j u W=>by
   rcases O.o.XO with ⟨v,-,-⟩ | ⟨g,aS,v,e2,-⟩
   ·rw[show l=none from congrArg Hd.ao v]at e;cases e
   ·rw[show l=some ⟨g,0,none⟩ from v]at e;cases e
    rw[bX];exact(O.o.cell v j u W)
  go_upto_region 4 with fail
  go_upto_region 5 with (at_builtin;refine fg _ rfl (.const (slice none 0 0)) (.tmp 30) 61 rfl iS (string ⟨#[]⟩) 16 ⟨none,0⟩ (aE []) underlying61 a4 ac af ag rfl TQ rfl (a0 _) l L.length A (dK L) rfl X.o F.o a3.o Y.o aT.o (by omega) ?_;intro k w5 G E;rw[a7.o]at G;rw[a6.o])
  have ar:Xr (ae [] w1 w5):=E.XQ.mono (by simp[Hd.XR])
  have d:=(show Xr _ from(HM.o.XD M.o).lay (b8 k (aE L)) (a:=13) (TG ⟨by decide,rfl⟩) ar.o G (fun q B=>by
   have B:=aQ B;rcases E.XR with e | ⟨g,e,hg⟩
   ·rw[e]at B;cases B
   ·rw[e]at B;cases B;exact hg))
  have J:Xr (ed x (13,c.length) (b8 k (aE L)) (12,c.length)=vf s L):=cg (by rw[Tj _ _ (bm (by decide))];exact ap.o);have K:Xr _:=bA x (13,c.length) (b8 k (aE L));have I:Xr (∀j i,(0<j/\j<=10)∨14<=j->ed x (13,c.length) (b8 k (aE L)) (j,i)=x (j,i)):=fun j i W=>Tj _ _ (bm (by omega));clear G E;generalize ed x (13,c.length) (b8 k (aE L))=I5 at *;have bc:=d.o.c16;have a1:=d.o.rowOwn;have H:Xr (b∉N.XR.toList):=fun B=>d.o.m.sep.far (0,0) (11,0) (bm (by decide)) b (by rw[d.o.m.w0];exact TH.2 rfl) (by rw[d.o.t.r];exact B);obtain⟨T,U⟩:=k;go_wp2_with (at_builtin;refine dx w5 rfl (.tmp 36) (.tmp 40) 40 rfl iT (agg #[slice none 0 0,slice none 0 0]) 48 N (m8 c) [slice _ L.length L.length,slice T L.length U] underlying40 a5 ai al an rfl Xa (by rw[Q.o];simp[Act.eval]) a1 a2.o (by omega) (by simp[Act.eval]) rfl (by intro u hu;simp only[List.mem_cons,List.not_mem_nil,or_false]at hu;rcases hu with rfl | rfl <;> rfl) ?_;intro h7 w7 z V;replace z:aB w7 h7 ⟨(m8 c).e,(m8 c).size,(m8 c).n+1,(m8 c).xs++Qs (s,⟨T,U⟩,L)⟩:=(by rw[ax.o];exact z);rw[m8,iz]at z;have p7:=V.XQ.get d.o.m.XR H.o;have f7:=am p7;have c7:w7.cell? ⟨b,16,none⟩=some (slice N.ao c.length N.cap):=(by rw[ah p7,<-d.o.t.e];rfl);have z7:=aj p7;have HF:Xr _:=d.o.add J.o K.o hl av.o V z;rw[Q.o]);go_ret;obtain⟨I',v',ba,az,q1,q2,q3⟩:=HF.o;exact⟨rfl,I',v',ba,az,q1,q2,fun j i W=>(q3 j i W).trans (I.o j i W)⟩
theorem RC(M:List Tx)(A C D:Int)(s t:Xs)(y:World)(h:cI y b x w N M S)(hV:w.V.length≠0)(hA:ri A)(hC:ri C)(hN:S<=1073741824)(P:∀i G m Z hd lo hi u r st c a,cI a b x w N M S->oL a x w i G m Z hd lo hi u r st->Calls prog 24 #[pointer (some ⟨b,0,none⟩),pointer (some ⟨G,0,none⟩),pointer (some ⟨m,0,none⟩),string c,string s,int i64 D] a fun e n=>pY b x S e n) :
  Calls prog 10 #[pointer (some ⟨b,0,none⟩),agg #[int i64 19,int i64 A,int i64 C,int i64 D,string s,string t]] y fun e n=>pY b x S e n:=by
 obtain⟨W,HW⟩:=bn (y.alloc (.cells #[int i64 19,int i64 A,int i64 C,int i64 D,string s,string t] 28));obtain⟨hM,hB,az,R⟩:=h.m.boxed 19 A C D s t W HW.o;have HT:Xr (cI W b x w N M S):=h.XD R;obtain⟨z,B,o2,o3,o4,o5,E⟩:=du hB;have HL:Xr _:=(lV b S x w 19 A C D s t W hM (by omega));have HS:Xr (iq W b y.heap.size x w S 19 A C D s t):=⟨hM,hB⟩;have ax:=h.m.len.1;have I:Xr (∀a,Calls prog 13 #[int i64 A,int i64 w.V.length] a fun e n=>e=returned (int i64 (fw A w.V.length:Nat))/\n=a):=fun a=>fF A w.V.length a hA ⟨by omega,by omega⟩;have Q:=hQ A w.V.length (by omega);obtain⟨i,Hi⟩:=bn (fw A w.V.length);rw[Hi.o]at I Q;have av:((w.V.length:Int)==0)=false:=TT.2 (by omega);have a1:(i:Int)<(w.V.length:Int):=by omega
 clear h hM hB R;go_enter func10,ntmps10;go_upto_region 1 with fail
 rw[HW.o];go_upto_region 2 with (go_at_call 12;refine Tr HL.o ?_;rintro e w1 ⟨rfl,k1⟩)
 have p:Xr (iq w1 b y.heap.size x w S 19 A C D s t):=HS.o.XD k1;have al:Xr (cI w1 b x w N M S):=HT.o.XD k1;clear z B o2 o3 o4 o5 E k1;obtain⟨z,B,-⟩:=du p.o.o;have E:=aj p.o.o;have Y:w1.cell? ⟨b,0,none⟩=some (slice w.hx.ao w.V.length w.hx.cap):=by rw[ah p.o.m.XR];rfl
 go_upto_region 4 with fail
 go_quiet ((go_at_call 13;exact TZ (I.o _)));go_upto_region 5 with fail
 obtain⟨F,v⟩:=bn (w1.drewN nq);rw[v.o];have l:Xr (iq F b y.heap.size x w S 19 A C D s t):=p.o.XD (by rw[<-v.o];exact kr0.drewN nq);have K:Xr (cI F b x w N M S):=al.o.XD (by rw[<-v.o];exact kr0.drewN nq);clear z B E Y;obtain⟨z,B,o2,o3,o4,o5,E⟩:=du l.o.o;obtain⟨G,m,Z,hd,lo,hi,u,r,st,g1,g2,j,⟨e1,z1,d1⟩,O,z2,d2⟩:=l.o.m.ver Q;have Y:F.cell? ⟨b,0,none⟩=some (slice w.hx.ao w.V.length w.hx.cap):=by rw[ah l.o.m.XR];rfl
 have c1:F.cell? ⟨b,1,none⟩=some (slice w.hm.ao w.V.length w.hm.cap):=by rw[ah l.o.m.XR];rfl
 rw[e1]at Y;rw[O]at c1;have ag:Xr _:=MD m Z hd u r st F j.d j.st j.le j.ok;have ad:Xr (∀c a,ae [] F a->Calls prog 24 #[pointer (some ⟨b,0,none⟩),pointer (some ⟨G,0,none⟩),pointer (some ⟨m,0,none⟩),string c,string s,int i64 D] a fun e n=>pY b x S e n):=fun c a k=>P i G m Z hd lo hi u r st c a (K.o.XD k) (j.XD k);clear j e1 O P;go_upto_region 34 with (go_at_call 23;refine Tr ag.o ?_;rintro e w3 ⟨L,h3,rfl,X,l3⟩)
 have H:Xr _:=X.XQ;have ai:Xr (iq w3 b y.heap.size x w S 19 A C D s t):=l.o.XD X.XQ;have af:Xr (dh w3 h3.ao 6 ld L):=aB.srcG (f:=ld) X.X6 (fun _=>rfl);have aT:Xr (L.length<=h3.cap):=by
  rcases X.X6.XO with ⟨-,O,-⟩ | ⟨g,ap,-,-,e3,-⟩
  ·have O:L.length=0:=O;show L.length<=_;omega
  ·exact e3
 clear z B o2 o3 o4 o5 E Y c1 z1 d1 z2 d2 X;obtain⟨z,B,o2,o3,o4,o5,E⟩:=du ai.o.o;obtain⟨an,aS⟩:=h3;by_cases hL:L.length=0
 ·rw[hL];go_wp2;go_ret;exact⟨rfl,_,_,_,_,(K.o.XD H.o).more,fun _ _ _=>rfl⟩
 ·have ar:((L.length:Int)==0)=false:=TT.2 (by omega);have J:Xr (∀a,Calls prog 13 #[int i64 C,int i64 L.length] a fun e n=>e=returned (int i64 (fw C L.length:Nat))/\n=a):=fun a=>fF C L.length a hC ⟨by omega,by omega⟩;have T:=hQ C L.length (by omega);obtain⟨k,Hk⟩:=bn (fw C L.length);rw[Hk.o]at J T;have a2:(k:Int)<L.length:=by omega
  obtain⟨g0,eg,a0,hc⟩:=af.o k _ (Tm T);replace eg:an=some ⟨g0,0,none⟩:=eg;subst eg;have r0:=hc 0 _ rfl;rw[Vd]at r0;clear hc;generalize L[k].XU=c at *;have ac:Xr (∀a,ae [] w3 a->Calls prog 24 #[pointer (some ⟨b,0,none⟩),pointer (some ⟨G,0,none⟩),pointer (some ⟨m,0,none⟩),string c,string s,int i64 D] a fun e n=>pY b x S e n):=fun a k=>ad.o c a (H.o.trans k);go_upto_region 37 with (go_at_call 13;refine Tr (J.o _) ?_;rintro q w4 ⟨rfl,U⟩;rw[U];clear U)
  go_region_with (go_at_call 24;refine(ac.o _ (by exact kr0.drew)).mono ?_;rintro e w9 ⟨rfl,q9⟩)
  all_goals
   go_wp2;go_ret;exact⟨rfl,q9⟩
theorem qn.wrote(h:qn H (some T) I)(s:Xs):qn (H.setCell ⟨T,y,none⟩ (string s)) (some T) (I.set y s):=by
 refine⟨⟨(fun e=>by cases e),fun e=>?_⟩,fun q e=>?_⟩
 ·have:I=[]:=VR.1 (by rw[<-Ul (i:=y) (a:=s),e];rfl);exact absurd (h.nil.2 this) (by simp)
 ·cases e
  rw[ab (h.XR T rfl),Ut,Em]
theorem NZ(o:aB H v (aE I))(a:v.ao=some ⟨T,0,none⟩)(s:Xs):aB (H.setCell ⟨T,y,none⟩ (string s)) v (aE (I.set y s)):=by
 have:=o.putAt a y (string s);have e:(⟨(aE I).e,(aE I).size,(aE I).n,(aE I).xs.set y (string s)⟩:eQ)=aE (I.set y s):=by
  unfold aE;rw[Em,Ul]
 rw[e]at this;exact this
theorem cI.wrote{c:Xt}{a:List Tx}(h:cI H T d k t a y)(u:a[i]?=some (M,v,I))(F:c.length=I.length)(G:ou D (ed (ed d (12,i) (vf M c)) (13,i) (b8 v (aE c)))):∃x B w o,cI D T x B w o (y+1)/\∀j g,j=10∨(14<=j/\j<=16)->x (j,g)=d (j,g):=by
 have f:=(Tz.1 u).1;have E:m8 (a.set i (M,v,c))=m8 a:=by
  have e:(a.set i (M,v,c)).flatMap Qs=a.flatMap Qs:=by
   have C:(a.set i (M,v,c)).map Qs=a.map Qs:=by
    rw[VH];apply Vp;intro j;rw[Uz];by_cases z:i=j
    ·subst z;rw[Tq rfl,T0,u];simp only[List.length_map,f,if_true,Option.map_some,Qs,F]
    ·rw[To z]
   rw[VP,VP,C]
  unfold m8 lF;rw[e,Ul]
 have m:=(h.m.retv G k.tv (by rw[yS (by decide) (by decide),yS (by decide) (by decide)];exact h.m.w0) (fun j g _ b=>by rw[yS (by decide) b,yS (by decide) b])).more;refine⟨_,_,t,a.set i (M,v,c),⟨m,h.q,⟨by rw[Ul];exact h.t.e,by rw[Tj _ _ (bm (by decide)),Tj _ _ (bm (by decide)),E];exact h.t.r,fun j p s A b=>?_,by rw[Ul];have:=h.t.n;omega⟩⟩,fun j g b=>by rw[Tj _ _ (bm (by omega)),Tj _ _ (bm (by omega))]⟩;rw[Uz]at b;rw[Tj _ _ (bm (by decide))];by_cases e:i=j
 ·subst e;rw[Tq rfl,Tq f]at b;cases b
  obtain⟨-,-,J⟩:=h.t.l i M v I u;rw[bA,bA];exact⟨rfl,rfl,by omega⟩
 ·rw[To e]at b;rw[Tj _ _ (vg (Ne.symm e)),Tj _ _ (vg (Ne.symm e)),Tj _ _ (bm (by decide))];exact h.t.l j p s A b
theorem Pz(f:List Tx)(A C D:Int)(s t:Xs)(R:World)(h:cI R b x w N f S)(hN:S<=1073741824)(hA:ri A)(hC:ri C) :
  Calls prog 12 #[pointer (some ⟨b,0,none⟩),agg #[int i64 18,int i64 A,int i64 C,int i64 D,string s,string t]] R fun e w'=>pY b x S e w':=by
 obtain⟨W,HW⟩:=bn (R.alloc (.cells #[int i64 18,int i64 A,int i64 C,int i64 D,string s,string t] 28));obtain⟨-,hB,bg,a5⟩:=h.m.boxed 18 A C D s t W HW.o;have p:=h.XD a5;obtain⟨o0,o1,o2,o3,o4,o5,Q⟩:=du hB;have bz:=aj p.m.XR;have d:=p.c16;by_cases hL:f.length=0
 ·have HF:Xr (cI W b x w N f S):=p;rw[hL]at d;clear h p hB;go_enter func12,ntmps12;go_upto_region 1 with fail
  rw[HW.o];go_wp2;go_ret;exact⟨rfl,_,_,_,_,HF.o.more,fun _ _ _=>rfl⟩
 ·have bf:=h.t.n;have X:Xr (∀J,Calls prog 13 #[int i64 A,int i64 f.length] J fun e w'=>e=returned (int i64 (fw A f.length:Nat))/\w'=J):=fun J=>fF A f.length J hA ⟨by omega,by omega⟩;have az:=hQ A f.length (by omega);obtain⟨k,Hk⟩:=bn (fw A f.length);rw[Hk.o]at X az;have HM:Xr (cI W b x w N f S):=p;obtain⟨bo,F,L,M,hk,⟨I,O,E,K⟩,hX,hO,bp⟩:=p.at_ az;obtain⟨c,j,-⟩:=p.t.l k bo F L hk;rw[I]at d;have bl:(k:Int)<f.length:=by omega
  have be:(0:Int)<f.length:=by omega
  have a2:Xr _:=hk;have T:Xr _:=c;have aT:Xr _:=j;by_cases B:L.length=0
  ·rw[B]at E;clear h p hB hk c j I hX hO;go_enter func12,ntmps12;(go_upto_region 1 with fail);rw[HW.o];(go_upto_region 48 with fail);go_quiet ((go_at_call 13;exact TZ (X.o _)));have HF:Xr (cI (W.drewN nq) b x w N f S):=HM.o.XD (kr0.drewN nq);go_wp2;go_ret;exact⟨rfl,_,_,_,_,HF.o.more,fun _ _ _=>rfl⟩
  ·have ar:Xr (∀J,Calls prog 13 #[int i64 C,int i64 L.length] J fun e w'=>e=returned (int i64 (fw C L.length:Nat))/\w'=J):=fun J=>fF C L.length J hC ⟨by omega,by omega⟩;have af:=hQ C L.length (by omega);obtain⟨i,Hi⟩:=bn (fw C L.length);rw[Hi.o]at ar af;obtain⟨a,rfl⟩:∃a,bo=some a:=by
    cases bo with
    | none=>rw[hX.nil.1 rfl]at B;exact absurd rfl B
    | some a=>exact⟨a,rfl⟩
   obtain⟨y,H⟩:∃y,F.ao=some ⟨y,0,none⟩:=by
    rcases hO.XO with ⟨-,e2,-⟩ | ⟨g,a3,e1,-⟩
    ·exact absurd e2 B
    ·exact⟨g,e1⟩
   have G:Xr _:=H;have P:a≠R.heap.size:=by
    intro e;have:=(vf (some a) L).lt R (by have:=h.m.sep.all (12,k);rw[c]at this;exact this) a (TH.2 rfl);omega
   have aS:y≠a:=by
    intro e;exact p.m.sep.far (13,k) (12,k) (bm (by decide)) y (by rw[j];show y∈F.XR.toList;unfold Hd.XR;rw[H];exact TH.2 rfl) (by rw[c,e];exact TH.2 rfl)
   replace E:W.cell? ⟨M,k*2,none⟩=some (slice (some ⟨a,0,none⟩) L.length L.length):=E;rw[H]at K;have bk:(i:Int)<L.length:=(by omega);have bj:(0:Int)<L.length:=(by omega);have ap:Xr _:=P;have ag:Xr (M≠a):=by
    intro e;exact p.m.sep.far (11,0) (12,k) (bm (by decide)) M (by rw[p.t.r];show M∈N.XR.toList;unfold Hd.XR;rw[I];exact TH.2 rfl) (by rw[c,e];exact TH.2 rfl)
   have a0:Xr (b≠a):=by
    intro e;exact p.m.sep.far (0,0) (12,k) (bm (by decide)) b (by rw[p.m.w0];exact TH.2 rfl) (by rw[c,e];exact TH.2 rfl)
   have u:Xr (∀v,ae [a] W v->(v.cell? ⟨R.heap.size,2,none⟩=some (int i64 C)/\v.cell? ⟨R.heap.size,4,none⟩=some (string s)/\R.heap.size<v.heap.size)/\(v.cell? ⟨b,16,none⟩=some (slice (some ⟨M,0,none⟩) f.length N.cap)/\b<v.heap.size)/\v.cell? ⟨M,k*2,none⟩=some (slice (some ⟨a,0,none⟩) L.length L.length)/\v.cell? ⟨M,k*2+1,none⟩=some (slice (some ⟨y,0,none⟩) L.length F.cap)/\M<v.heap.size):=fun v kw=>by
    have q:∀g i,g<W.heap.size->g≠a->v.cell? ⟨g,i,none⟩=W.cell? ⟨g,i,none⟩:=fun g i hg hn=>TN (kw.block g hg (by simp;exact hn));have z:=kw.size;exact⟨⟨by rw[q _ _ Q (Ne.symm ap.o)];exact o2,by rw[q _ _ Q (Ne.symm ap.o)];exact o4,by omega⟩,⟨by rw[q _ _ bz a0.o];exact d,by omega⟩,by rw[q _ _ O ag.o];exact E,by rw[q _ _ O ag.o];exact K,by omega⟩
   have bd:Xr (L.length<=F.cap):=by
    rcases hO.XO with ⟨-,e2,-⟩ | ⟨g,a3,-,-,e3,-⟩
    ·exact absurd e2 B
    ·exact e3
   clear h p hB hk c j I hX hO P H aS;go_enter func12,ntmps12;(go_upto_region 1 with fail);rw[HW.o];(go_upto_region 48 with fail);go_quiet ((go_at_call 13;exact TZ (X.o _)));(go_upto_region 50 with fail);obtain⟨W2,av⟩:=bn (W.drewN nq);rw[av.o];have ai:Xr (ae [] W W2):=(by show ae _ _ _;rw[<-av.o];exact kr0.drewN nq);clear o0 o1 o2 o3 o4 o5 Q d bz E K O;obtain⟨⟨o2,o4,Q⟩,⟨d,bz⟩,E,K,O⟩:=u.o W2 (ai.o.mono (by simp));go_quiet ((go_at_call 13;exact TZ (ar.o _)));(go_upto_region 51 with fail);obtain⟨W3,ax⟩:=bn (W2.drewN nq);rw[ax.o];have U:Xr (ae [] W W3):=(by show ae _ _ _;rw[<-ax.o];exact ai.o.drewN nq);have an:Xr (cI W3 b x w N f S):=HM.o.XD U.o;have ac:Xr (qn W3 (some a) L):=(by show qn _ _ _;have:=an.o.m.sep.all (12,k);rw[T.o]at this;exact this);clear o2 o4 Q d bz E K O;obtain⟨⟨o2,o4,Q⟩,⟨d,bz⟩,E,K,O⟩:=u.o W3 (U.o.mono (by simp));have d0:W3.cell? ⟨a,i,none⟩=some (string L[i]):=by rw[ah (ac.o.XR a rfl)];simp[dK,af]
   have df:=am (ac.o.XR a rfl) i;generalize L[i]=a6 at *;go_region
   all_goals
    obtain⟨W4,Y⟩:=bn ((W3.setCell ⟨a,i,none⟩ (string s)).drew);rw[Y.o];have al:Xr (ae [a] W3 W4):=(by show ae _ _ _;rw[<-Y.o];exact((ae.refl [a] _).sl1 _).drew);have S4:Xr (ou W4 (ed x (12,k) (vf (some a) (L.set i s)))):=by
     show ou _ _;refine an.o.m.sep.put _ _ (by rw[T.o];exact al.o) ?_ (fun q hq=>TG (by rw[T.o];exact hq));rw[<-Y.o];exact(vf _ _).ok [] _ _ (ac.o.wrote s) kr0.drew (by simp)
    have ad:Xr (ed x (12,k) (vf (some a) (L.set i s)) (13,k)=b8 F (aE L)):=cg (by rw[Tj _ _ (bm (by decide))];exact aT.o);have V:Xr (aB W4 F (aE L)):=(by show aB _ _ _;have:=S4.o.all (13,k);rw[ad.o]at this;exact this);clear d0 df o2 o4 Q d bz E K O;obtain⟨⟨o2,o4,Q⟩,⟨d,bz⟩,E,K,O⟩:=u.o W4 ((U.o.mono (by simp)).trans al.o);have d0:W4.cell? ⟨y,i,none⟩=some (string L[i]):=V.o.cell G.o i _ (by simp[aE,dK,af]);have df:=DG V.o G.o i;generalize L[i]=a7 at *;(go_upto_region 52 with fail);go_region
    all_goals
     obtain⟨W5,Z⟩:=bn ((W4.setCell ⟨y,i,none⟩ (string s)).drew);rw[Z.o];have a1:Xr (ae [y] W4 W5):=(by show ae _ _ _;rw[<-Z.o];exact((ae.refl [y] _).sl1 _).drew);have S5:Xr (ou W5 (ed (ed x (12,k) (vf (some a) (L.set i s))) (13,k) (b8 F (aE (L.set i s))))):=by
      show ou _ _;have a4:F.XR.toList=[y]:=(by unfold Hd.XR;rw[G.o];rfl);refine S4.o.put _ _ (by rw[ad.o];show ae F.XR.toList _ _;rw[a4];exact a1.o) ?_ (fun q hq=>TG (by rw[ad.o];exact hq));rw[<-Z.o];exact(b8 _ _).ok [] _ _ (NZ V.o G.o s) kr0.drew (by simp)
     go_wp2;go_ret;exact⟨rfl,HM.o.wrote a2.o Ul S5.o⟩
theorem oo{P:Program}{k:Array Oper}{d:List Oper}{o:Oper}{a:Act}{Q:Exit->Act->World->Prop}(L:o.guard=none)(s x:Operand)(t:TypeId)(w:o.op=Op.call { callee:=Callee.builtin Builtin.append,args:=#[s,x],argTypes:=#[t,t] })(i:TypeInfo)(z:Value)(c:Nat)(h:Hd)(r:eQ)(b:List Value)(B:P.underlying t=some (.slice r.e))(C:P.info? r.e=some i)(D:i.zero=some z)(E:i.size=r.size)(F:i.bytes=c)(G:z.cells.size=r.size)(H:0<r.size)(O:a.eval s=slice h.ao r.n h.cap)(f:aB u h r)(V:r.n+1<=140737488355328)(J:(r.n+1)*c<=140737488355328)(R:a.eval x=slice (some ⟨u.heap.size,0,none⟩) 1 1)(W:b.length=r.size)(p:∀A∈b,A.oneCell'=true)(I:∀m l,aB l m ⟨r.e,r.size,r.n+1,r.xs++b⟩->bq u l h m->wpList P k Q d (a.put o.dst (slice m.ao (r.n+1) m.cap)) l) :
  wpList P k Q (o :: d) a (u.alloc (.cells b.toArray r.e)):=by
 have y:ae [] u (u.alloc (.cells b.toArray r.e)):=kr0.alloc _;have N:(u.alloc (.cells b.toArray r.e)).heap[u.heap.size]?=some (.cells b.toArray r.e):=Ts _ _;obtain⟨v,l,g,S,T⟩:=qu (P:=P) (u.alloc (.cells b.toArray r.e)) t o.type i z c h r B C D E F G H (f.XD y) (some ⟨u.heap.size,0,none⟩) 1 1 b (by omega) (fun e=>by cases e) (fun U e j A M=>by cases e;rw[bX,ah N];simpa using M) p (by unfold maxLen;omega) J;refine wpList_plain L fun K q=>?_;unfold Oper.wp;simp[execOp,w,resolve,invoke,builtin,O,R,g,Result.andThen];exact q _ _ (I v l S ((bq.XD y).trans T))
def o8(d:Int)(o:nD):nD:=if o.k=19 then { o with d:=d } else o
theorem Nw(l:List nD)(w:World)(hl:l.length*64<=140737488351232)(hi:mU w z0 l) :
  Calls prog 7 #[slice z0 l.length S,int i64 L] w fun e w'=>∃j,e=returned (slice j.ao l.length j.cap)/\io w w' j (iH (l.map (o8 L))):=by
 have HI:Xr (mU w z0 l):=hi;obtain⟨iX,K,r,u,v⟩:=TY M9;have P:Xr (io w w ⟨none,0⟩ (iH [])):=⟨Tw _ _ _ _,(by intro k hk;cases hk),ae.refl _ _⟩;clear hi;go_enter func7,ntmps7;go_wp2
 go_loopg [5,6] l.length (fun g lv iv wr=>∃(k:Nat) (j:Hd) (d:List nD),k<=l.length/\g=l.length-k/\lv=slice j.ao d.length j.cap/\iv=int i64 k/\d.length=k/\Xr (d=(l.take k).map (o8 L))/\Xr (io w wr j (iH d)))
 ·exact⟨0,⟨none,0⟩,[],by omega,rfl,rfl,rfl,rfl,rfl,P⟩
 obtain⟨k,j,d,hk,hg,rfl,rfl,H,O,M⟩:=hrel;rcases kn k l.length with ⟨E,ac⟩ | ⟨E,-⟩
 ·obtain⟨b,af,rfl,hb,D⟩:=(mU.XD HI.o M.o.XQ) k _ (mD l k E);have p:Xr (d++[o8 L (lD l k)]=(l.take (k+1)).map (o8 L)):=by
   show _=_;rw[Wr,mD l k E,Ug,<-O.o];rfl
  have c0:=D 0 _ rfl;have c1:=D 1 _ rfl;have c2:=D 2 _ rfl;have c3:=D 3 _ rfl;have c4:=D 4 _ rfl;have c5:=D 5 _ rfl;rw[Vd]at c0;generalize lD l k=o at *;clear D;have C:(iH d).n=d.length:=rfl;have F:Xr ((iH d).n=d.length):=C;have I:Xr ((iH d).n+1<=140737488355328):=by show(iH d).n+1<=_;rw[C];omega
  have J:Xr (((iH d).n+1)*64<=140737488355328):=by show((iH d).n+1)*64<=_;rw[C];omega
  obtain⟨X,N⟩:=bn (wr.alloc (.cells #[int i64 o.k,int i64 o.a,int i64 o.c,int i64 o.d,string o.s,string o.t] 28));have G:Xr _:=fH N.o;have q:Xr _:=f8 N.o;cases A:(o.k==19)
  ·have y:Xr (o8 L o=o):=(by show _=_;unfold o8;rw[To (fun e=>by rw[e]at A;cases A)]);rw[y.o]at p;obtain⟨U,V,W,Z,b4,b5,z⟩:=du q.o;have f:Xr _:=M.o.XD G.o;have B:=f.o.X6;(go_upto_region 6 with fail);rw[N.o];go_wp2_with (at_builtin;refine oo X rfl (.tmp 23) (.tmp 25) 22 rfl iX (agg #[int i64 0,int i64 0,int i64 0,int i64 0,string ⟨#[]⟩,string ⟨#[]⟩]) 64 j (iH d) (LQ o) underlying22 K r u v rfl (show 0<6 by omega) (by rw[F.o];simp[Act.eval]) B I.o J.o (by simp[Act.eval]) rfl (BE o) ?_;intro h5 w5 i m;rw[iH,iz]at i;have x:Xr _:=f.o.XN m i;clear i m);go_roundg (l.length-(k+1))
   ·exact⟨k+1,h5,d++[o],by omega,rfl,by rw[Tu,H];rfl,by go_num,by rw[Tu];show _+1=_;omega,p,x⟩
   omega
  ·have y:Xr (o8 L o={ o with d:=L }):=(by show _=_;unfold o8;rw[Tq (Wg A)]);rw[y.o]at p;obtain⟨Y,Q⟩:=bn (X.setCell ⟨wr.heap.size,3,none⟩ (int i64 L));have T:Xr (ae [] wr Y):=by show ae _ _ _;rw[<-Q.o];exact G.o.sr1 (Tp _) _
   have R:Xr (Y.heap[wr.heap.size]?=some (.cells #[int i64 o.k,int i64 o.a,int i64 o.c,int i64 L,string o.s,string o.t] 28)):=cg (by rw[<-Q.o,ab q.o 3 _];rfl);obtain⟨U,V,W,Z,b4,b5,z⟩:=du q.o;have bf:=am q.o 3;have f:Xr _:=M.o.XD T.o;have B:=f.o.X6;(go_upto_region 6 with fail);rw[N.o];(go_upto_region 8 with fail);rw[Q.o];clear U V W Z b4 b5 z bf;obtain⟨U,V,W,Z,b4,b5,z⟩:=du R.o;go_wp2_with (at_builtin;refine oo Y rfl (.tmp 23) (.tmp 25) 22 rfl iX (agg #[int i64 0,int i64 0,int i64 0,int i64 0,string ⟨#[]⟩,string ⟨#[]⟩]) 64 j (iH d) (LQ { o with d:=L }) underlying22 K r u v rfl (show 0<6 by omega) (by rw[F.o];simp[Act.eval]) B I.o J.o (by simp[Act.eval]) rfl (BE _) ?_;intro h5 w5 i m;rw[iH,iz]at i;have x:Xr _:=f.o.XN m i;clear i m);go_roundg (l.length-(k+1))
   ·exact⟨k+1,h5,d++[(⟨o.k,o.a,o.c,L,o.s,o.t⟩:nD)],by omega,rfl,by rw[Tu,H];rfl,by go_num,by rw[Tu];show _+1=_;omega,p,x⟩
   omega
 ·have e:k=l.length:=by omega
  subst e;have ad:¬(l.length:Int)<l.length:=by omega
  rw[UN]at O;go_wp2;go_ret;exact⟨j,rfl,by rw[<-O.o];exact M.o⟩
end Go.Proofs.YtnbhnocdhbcbcaaGreat
