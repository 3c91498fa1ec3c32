import Derived.Test.YtpdholcaobgofaaGreatP32
namespace Go.Proofs.YtpdholcaobgofaaGreat
open Go.RowKit Tryz
open Value IntKind Ending
set_option maxHeartbeats 0
variable{H D:World}{T y i z5:Nat}{d z6:Nat×Nat->It}{k:Mc}{v t:Hd}{M:Option Nat}{z8:Xt}{u:List Int}{g:Int}{I:Xs}{zf:Ending}(z0:Xt)(b S:Nat)(x:Nat×Nat->It)(w:Mc)(m s L:Int)(c:World)(N:Hd)
theorem cU.loads(a:cU H T d k y)(O:y<=1073741824){x m o n e t q c b:Nat}{u f:Fs}{z D:Option Nat}(V:qx H d k i x m u v t q c b M)(K:k.L[z5]?=some (z,D,f))(w:o+n+e<=f.length) :
  Calls prog 12 #[pointer (some ⟨x,0,none⟩),pointer (some ⟨m,0,none⟩),slice (Az z) f.length f.length,int i64 o,int i64 n,int i64 e] H fun r N=>Ju H x m v t q c b (oo (eC ((f.drop o).take n)) M) (kU u ((f.drop o).take n)) r N:=by
 obtain⟨A,-,j,J⟩:=a.l z5 z D f K;have B:=a.sep.all (8,z5);rw[A]at B;cases z with
 | none =>
  have s:=jZ.nil B rfl;subst s;have E:o=0:=by simp at w;omega
  have F:n=0:=by simp at w;omega
  have G:e=0:=by simp at w;omega
  subst E F G;exact Ki x m u v t q c b M H V.p V.d V.far
 | some g =>
  have I:g∉x :: jA t q:=by have:=a.sep.far (8,z5) (6,i) (bJ (by decide)) g (by rw[A];exact XH.2 rfl);rw[V.i6]at this;exact this
  have C:g∉m :: (v.Zbx.toList++jA c b):=by have:=a.sep.far (8,z5) (7,i) (bJ (by decide)) g (by rw[A];exact XH.2 rfl);rw[V.i7]at this;exact this
  exact GX x m g o n e u f v t q c b M H V.p V.d (jZ.Zbx B g rfl) V.far (fun e=>I (by rw[e];exact Yg)) (fun e=>C (by rw[e];exact Yg)) (fun e=>C (Yf _ (Yx _ (by rw[e];simp)))) w (by omega) j
set_option maxRecDepth 100000
theorem zcc(A t:Xr)(D:World)(h:cU D b x w S)(hV:w.V.length≠0)(hA:tP m)(hC:tP s)(hN:S<=1073741824) :
  Calls prog 8 #[pointer (some ⟨b,0,none⟩),agg #[int i64 8,int i64 m,int i64 s,int i64 L,string A,string t]] D fun e u=>jS b x w S true e u:=by
 obtain⟨W,HW⟩:=aP (D.alloc (.cells #[int i64 8,int i64 m,int i64 s,int i64 L,string A,string t] 28));obtain⟨hM,hB,an,-⟩:=h.boxed 8 m s L A t W HW.o;obtain⟨T,U,o2,o3,o4,o5,X⟩:=dG hB;have HL:Xq _:=(mX b S x w 8 m s L A t W hM (by omega));have HS:Xq (iW W b D.heap.size x w S 8 m s L A t):=⟨hM,hB⟩;have am:=h.len.1;have J:Xq (∀c,Calls prog 11 #[int i64 m,int i64 w.V.length] c fun e u=>e=returned (int i64 (fH m w.V.length:Nat))/\u=c):=fun c=>fS m w.V.length c hA ⟨by omega,by omega⟩;have P:=iw m w.V.length (by omega);obtain⟨i,Hi⟩:=aP (fH m w.V.length);rw[Hi.o]at J P;have al:((w.V.length:Int)==0)=false:=X6.2 (by omega);have aq:(i:Int)<(w.V.length:Int):=by omega
 clear h hM hB;go_enter func8,ntmps8;go_upto_region 1 with fail
 rw[HW.o];go_upto_region 2 with (go_at_call 10;refine Xx HL.o ?_;rintro e w1 ⟨rfl,k1⟩)
 have z:Xq (iW w1 b D.heap.size x w S 8 m s L A t):=HS.o.Zbj k1;clear T U o2 o3 o4 o5 X k1;obtain⟨T,U,-⟩:=dG z.o.o;have X:=ah z.o.o;have Z:w1.cell? ⟨b,0,none⟩=some (slice w.hx.ao w.V.length w.hx.cap):=by rw[ab z.o.m.Zbx];rfl
 go_upto_region 4 with fail
 go_quiet ((go_at_call 11;exact XW (J.o _)));go_upto_region 5 with fail
 obtain⟨E,M⟩:=aP (w1.drewN nq);rw[M.o];have d:Xq (iW E b D.heap.size x w S 8 m s L A t):=z.o.Zbj (by rw[<-M.o];exact bH.drewN nq);clear T U X Z;obtain⟨T,U,o2,o3,o4,o5,X⟩:=dG d.o.o;obtain⟨Y,af,fs,hd,lo,hi,R,O,st,g1,g2,C,⟨e1,z1,d1⟩,e2,z2,d2⟩:=d.o.m.ver P;have Z:E.cell? ⟨b,0,none⟩=some (slice w.hx.ao w.V.length w.hx.cap):=by rw[ab d.o.m.Zbx];rfl
 have c1:E.cell? ⟨b,1,none⟩=some (slice w.hm.ao w.V.length w.hm.cap):=by rw[ab d.o.m.Zbx];rfl
 rw[e1]at Z;rw[e2]at c1;have ad:Xq _:=C;have c3:E.cell? ⟨b,3,none⟩=some (slice w.hl.ao w.L.length w.hl.cap):=by rw[ab d.o.m.Zbx];rfl
 by_cases hL:w.L.length=0
 ·rw[hL]at c3;clear C e1 e2;go_wp2;go_ret;exact⟨rfl,_,_,d.o.m.more,uT.refl _ _⟩
 ·have ai:=d.o.m.len.2.2;have K:Xq (∀c,Calls prog 11 #[int i64 s,int i64 w.L.length] c fun e u=>e=returned (int i64 (fH s w.L.length:Nat))/\u=c):=fun c=>fS s w.L.length c hC ⟨by omega,by omega⟩;have Q:=iw s w.L.length (by omega);obtain⟨k,Hk⟩:=aP (fH s w.L.length);rw[Hk.o]at K Q;obtain⟨⟨la,lc,g⟩,hk⟩:∃Y,w.L[k]?=some Y:=⟨w.L[k],Xv Q⟩
  obtain⟨-,-,-,ap⟩:=d.o.m.l k la lc g hk;obtain⟨gl,N,gz,gc⟩:=qO d.o.m.ownL (k:=k) (x:=(la,g)) (by rw[Yi,hk];rfl);replace gc:E.cell? ⟨gl,k,none⟩=some (slice (Az la) g.length g.length):=gc;rw[N]at c3;have ar:(k:Int)<(w.L.length:Int):=by omega
  have ag:((w.L.length:Int)==0)=false:=X6.2 (by omega);obtain⟨ra,rn,re⟩:=d.o.m.rng;have G:Xq (∀c,Calls prog 11 #[int i64 w.a,int i64 ((g.length:Int)+1)] c fun e u=>e=returned (int i64 (fH w.a (g.length+1):Nat))/\u=c):=fun c=>fS w.a (g.length+1) c ra ⟨by omega,by omega⟩;have ho:=iw w.a (g.length+1) (by omega);obtain⟨o,Ho⟩:=aP (fH w.a (g.length+1));rw[Ho.o]at G ho;have H:Xq (∀c,Calls prog 11 #[int i64 w.n,int i64 ((g.length:Int)-(o:Int)+1)] c fun e u=>e=returned (int i64 (fH w.n (g.length-o+1):Nat))/\u=c):=fun c=>by
   rw[show(g.length:Int)-(o:Int)+1=((g.length-o+1:Nat):Int) by omega];exact fS w.n (g.length-o+1) c rn ⟨by omega,by omega⟩
  have hn:=iw w.n (g.length-o+1) (by omega);obtain⟨n,Hn⟩:=aP (fH w.n (g.length-o+1));rw[Hn.o]at H hn;have I:Xq (∀c,Calls prog 11 #[int i64 w.e,int i64 ((g.length:Int)-(o:Int)-(n:Int)+1)] c fun e u=>e=returned (int i64 (fH w.e (g.length-o-n+1):Nat))/\u=c):=fun c=>by
   rw[show(g.length:Int)-(o:Int)-(n:Int)+1=((g.length-o-n+1:Nat):Int) by omega];exact fS w.e (g.length-o-n+1) c re ⟨by omega,by omega⟩
  have he:=iw w.e (g.length-o-n+1) (by omega);obtain⟨e,He⟩:=aP (fH w.e (g.length-o-n+1));rw[He.o]at I he;have ac:Xq (∀y,cU y b x w S->qx y x w i Y af fs hd lo hi R O st->Calls prog 12 _ y _):=fun y a V=>a.loads hN V hk (o:=o) (n:=n) (e:=e) (by omega);clear C e1 e2 hk N ra rn re;go_upto_region 11 with fail
  go_quiet ((go_at_call 11;exact XW (K.o _)));go_upto_region 12 with fail
  obtain⟨y,B⟩:=aP (E.drewN nq);rw[B.o];have r:Xq (iW y b D.heap.size x w S 8 m s L A t):=d.o.Zbj (by rw[<-B.o];exact bH.drewN nq);clear T U o2 o3 o4 o5 X Z c1 c3 z1 d1 z2 d2 gz gc;have c5:y.cell? ⟨b,5,none⟩=some (int i64 w.a):=by rw[ab r.o.m.Zbx];rfl
  have c6:y.cell? ⟨b,6,none⟩=some (int i64 w.n):=by rw[ab r.o.m.Zbx];rfl
  have c7:y.cell? ⟨b,7,none⟩=some (int i64 w.e):=by rw[ab r.o.m.Zbx];rfl
  have f:Xq (qx y x w i Y af fs hd lo hi R O st):=ad.o.Zbj (by rw[<-B.o];exact bH.drewN nq);have F:Xq _:=ac.o y r.o.m f.o;go_upto_region 13 with (go_at_call 11;refine Xx (G.o _) ?_;rintro q w4 ⟨rfl,j⟩;rw[j];clear j)
  go_upto_region 14 with (go_at_call 11;refine Xx (H.o _) ?_;rintro q w4 ⟨rfl,j⟩;rw[j];clear j)
  go_upto_region 15 with (go_at_call 11;refine Xx (I.o _) ?_;rintro q w4 ⟨rfl,j⟩;rw[j];clear j)
  go_wp2_with (go_at_call 12;refine Xx F.o ?_;rintro q w4 ⟨rfl,q1,⟨h',q2,q3⟩,q4⟩);go_ret;exact⟨rfl,r.o.m.both f.o.v f.o.i6 f.o.i7 q1 q2 (XQ ⟨rfl,rfl⟩) (XQ ⟨rfl,rfl⟩) q3 (Mn f.o.far f.o.p.lt q3) q4 (Sd f.o.ok _)⟩
structure oU where
 k:Int
 a:Int
 c:Int
 d:Int
 s:Xr
 t:Xr
def Qr(o:oU):List Value:=[int i64 o.k,int i64 o.a,int i64 o.c,int i64 o.d,string o.s,string o.t]
def jo(L:List oU):eD:=lu 28 6 Qr L
theorem RQ:(prog.info? 28).map (fun i=>(i.zero,i.size,i.bytes))=some (some (agg #[int i64 0,int i64 0,int i64 0,int i64 0,string ⟨#[]⟩,string ⟨#[]⟩]),6,64):=by kernel_rfl
theorem EV(o:oU):∀u∈Qr o,u.oneCell'=true:=by
 intro u a;simp only[Qr,List.mem_cons,List.not_mem_nil,or_false]at a;rcases a with rfl | rfl | rfl | rfl | rfl | rfl <;> rfl
structure FF(X:oU->Prop)(o:oU):Prop where
 a:tP o.a
 c:tP o.c
 d:tP o.d
 s:o.s.size<=1073741824
 t:o.t.size<=1073741824
 k:(1<=o.k/\o.k<=10)∨(15<=o.k/\o.k<=18)∨X o
def oj(w:World)(ao:Xt)(l:List oU):Prop:=∀(i:Nat) (o:oU),l[i]?=some o->∃b off,ao=some ⟨b,off,none⟩/\b<w.heap.size/\∀(j:Nat) u,(Qr o)[j]?=some u->w.cell? ⟨b,off+i*6+j,none⟩=some u
theorem oj.Zbj{l:List oU}(h:oj H z8 l)(k:aa [] H D):oj D z8 l:=by
 intro i o f;obtain⟨b,a,e,c,d⟩:=h i o f;exact⟨b,a,e,XB c k.size,fun j u g=>by rw[XJ (k.block b c (by simp))];exact d j u g⟩
structure Cc(o:oU):Prop where
 k:tP o.k
 a:tP o.a
 c:tP o.c
 d:tP o.d
 s:o.s.size<=140737488351232
 t:o.t.size<=140737488351232
def mE(l:List oU)(k:Nat):oU:=l.getD k ⟨0,0,0,0,⟨#[]⟩,⟨#[]⟩⟩
theorem nP(l:List oU)(k:Nat)(h:k<l.length):l[k]?=some (mE l k):=by
 unfold mE;rw[Xw,Xv h];rfl
def zac(l:List oU)(w:World)(e:Ending)(w':World):Prop:=(∃r,e=returned (bool r)/\(r=true->l.length<=1073741824/\∀i,i<l.length->(mE l i).s.size<=1073741824/\(mE l i).t.size<=1073741824))/\aa [] w w'
theorem Lj(l:List oU)(w:World)(O:l.length<=140737488351232)(j:oj w z0 l)(v:∀o∈l,Cc o) :
  Calls prog 6 #[slice z0 l.length S] w fun e K=>zac l w e K:=by
 have x:Xq (oj w z0 l):=j;have q:Xq _:=v;clear j v;rcases kn 1073741824 l.length with ⟨B,n⟩ | ⟨B,n⟩
 ·go_enter func6,ntmps6;go_wp2;go_ret;exact⟨⟨false,rfl,by simp⟩,aa.refl _ _⟩
 ·go_enter func6,ntmps6;go_wp2
  go_loopg [3,4] l.length (fun g m i wr=>∃(k:Nat) (z:Int),k<=l.length/\g=l.length-k/\i=int i64 k/\m=int i64 z/\Xq (∀i,i<k->(mE l i).s.size<=1073741824/\(mE l i).t.size<=1073741824)/\0<=z/\z<=1073741824/\Xq (aa [] w wr))
  ·exact⟨0,l.length,by omega,by omega,rfl,rfl,fun i h=>by omega,by omega,by omega,aa.refl _ _⟩
  obtain⟨k,z,N,M,rfl,rfl,r,H,I,f⟩:=hrel;rcases kn k l.length with ⟨a,D⟩ | ⟨a,E⟩
  ·obtain⟨b,J,rfl,L,p⟩:=(oj.Zbj x.o f.o) k _ (nP l k a);have y:=p 4 _ rfl;have A:=p 5 _ rfl;have F:=(q.o (mE l k) (YH (nP l k a))).s;have G:=(q.o (mE l k) (YH (nP l k a))).t;obtain⟨o,u⟩:=aP (mE l k);rw[u.o]at y A F G;clear p;by_cases C:(1073741824:Int)<z+o.s.size+o.t.size
   ·(go_upto_region 7 with fail);go_quiet (fail);have c:Xq (aa [] w (wr.drewN nq)):=f.o.drewN nq;go_wp2;go_ret;exact⟨⟨false,rfl,by simp⟩,c.o⟩
   ·have d:Xq (∀i,i<k+1->(mE l i).s.size<=1073741824/\(mE l i).t.size<=1073741824):=fun i j=>by
     by_cases e:i=k
     ·rw[e,u.o];omega
     ·exact r.o i (by omega)
    (go_upto_region 7 with fail);go_quiet (fail);have c:Xq (aa [] w (wr.drewN nq)):=f.o.drewN nq;go_wp2;go_roundg (l.length-(k+1))
    ·exact⟨k+1,z+o.s.size+o.t.size,by omega,rfl,by go_num,rfl,d,by omega,by omega,c⟩
    omega
  ·have d:Xq (∀i,i<l.length->(mE l i).s.size<=1073741824/\(mE l i).t.size<=1073741824):=fun i j=>r.o i (by omega);go_wp2;go_ret;exact⟨⟨true,rfl,fun _=>⟨by omega,d.o⟩⟩,f.o⟩
theorem PD(D:Int)(b t:Xr)(w:World)(Q:World->Prop)(f:∀W,aa [] w W->Calls prog 10 #[pointer (some ⟨S,0,none⟩),agg #[int i64 m,int i64 s,int i64 L,int i64 D,string b,string t]] W fun e c=>e=returned (bool true)/\Q c) :
  Calls prog 8 #[pointer (some ⟨S,0,none⟩),agg #[int i64 m,int i64 s,int i64 L,int i64 D,string b,string t]] w fun e c=>e=returned (bool true)/\Q c:=by
 obtain⟨W,a⟩:=aP (w.alloc (.cells #[int i64 m,int i64 s,int i64 L,int i64 D,string b,string t] 28));have g:=dx a.o;have d:=dC a.o;obtain⟨k,l,n,p,q,r,u⟩:=dG d;have i:Xq _:=f W g;clear d f g;go_enter func8,ntmps8;go_upto_region 1 with fail
 rw[a.o];go_wp2_with (go_at_call 10;refine Xx i.o ?_;rintro e v ⟨rfl,j⟩);go_ret;exact⟨rfl,j⟩
def itO(w0:World)(h:Hd)(L:List oU):It where
 B:=List.range w0.heap.size++h.Zbx.toList
 P w:=aa [] w0 w/\aD w h (jo L)
 lt w a q hq:=by
  rcases X9.1 hq with e | e
  ·exact XB (XI.1 e) a.1.size
  ·exact a.2.lt (aX e)
 ok S w w' a k hb:=by
  refine⟨⟨k.os.trans a.1.os,k.tape.trans a.1.tape,k.output.trans a.1.output,XF a.1.size k.size,fun q hq _=>?_⟩,a.2.Zbo (fun q hq=>k.block q (a.2.lt hq) (hb q (YT _ (by rw[hq];simp))))⟩;rw[k.block q (XB hq a.1.size) (hb q (Yx _ (XI.2 hq)))];exact a.1.block q hq (by simp)
def itN:It where
 B:=[]
 P _:=True
 lt _ _ q hq:=by cases hq
 ok _ _ _ _ _ _:=trivial
def mc0:Mc:=⟨⟨none,0⟩,⟨none,0⟩,⟨none,0⟩,⟨none,0⟩,⟨none,0⟩,[],[],[],0,0,0,0,⟨#[]⟩,0,0,⟨#[]⟩,0,0,slice none 0 0,slice none 0 0⟩
theorem NM:(Instr.build 42 #[]).run prog c=.ok (agg mc0.cells.toArray) c :=
 Za9 c 42 _ _ (by kernel_rfl)
theorem Uf(X:oU->Prop)(P:World)(h:Hd)(L:List oU)(w:World)(hL:L.length<=1073741824)(m:∀i,i<L.length->FF X (mE L i))(J:Nat->World->Prop)(I:∀W,aa [] w W->W.heap[w.heap.size]?=some (.cells mc0.cells.toArray 42)->J 0 W)(N:∀n wr,J n wr->aa [] P wr/\aD wr h (jo L))(K:∀n wr Q,J n wr->aa [] wr Q->J n Q)(O:∀n wr o,J n wr->n<=1073741824->FF X o->Calls prog 8 #[pointer (some ⟨w.heap.size,0,none⟩),agg #[int i64 o.k,int i64 o.a,int i64 o.c,int i64 o.d,string o.s,string o.t]] wr fun e p=>e=returned (bool true)/\J (n+1) p)(M:∀n wr,J n wr->n<=1073741825->Calls prog 9 #[pointer (some ⟨w.heap.size,0,none⟩)] wr fun e p=>e=returned (bool true)/\aa [] wr p) :
  Calls prog 7 #[slice h.ao L.length h.cap] w fun e p=>e=returned (int i64 (-1))/\aa [] P p:=by
 obtain⟨F,H⟩:=h;obtain⟨W,r⟩:=aP (w.alloc (.cells mc0.cells.toArray 42));have A:Xq (J 0 W):=I W (by rw[<-r.o];exact bH.alloc _) (by rw[<-r.o];exact XD _ _);have C:Xq _:=m;have y:Xq _:=N;have v:Xq _:=K;have z:Xq _:=O;have x:Xq _:=M;have T:=NM;have G:Xq (mc0.cells.toArray=#[slice none 0 0,slice none 0 0,slice none 0 0,slice none 0 0,slice none 0 0,int i64 0,int i64 0,int i64 0,int i64 0,string ⟨#[]⟩,int i64 0,int i64 0,string ⟨#[]⟩,int i64 0,int i64 0,slice none 0 0,slice none 0 0]):=rfl;rw[G.o]at r;simp only[G.o]at T;clear I N K O M m;go_enter func7,ntmps7;go_upto_region 2 with fail
 rw[r.o];go_wp2
 go_loopg [4] L.length (fun g i wr=>∃k:Nat,k<=L.length/\g=L.length-k/\i=int i64 k/\Xq (J k wr))
 ·exact⟨0,by omega,rfl,rfl,A⟩
 obtain⟨k,hk,hg,rfl,q⟩:=hrel;have u:=y.o k wr q.o;rcases kn k L.length with ⟨l,Z⟩ | ⟨l,ac⟩
 ·obtain⟨V,E,Y,j⟩:=(aD.srcG (f:=Qr) u.2 (fun _=>rfl)) k _ (nP L k l);have U:=j 0 _ rfl;have c1:=j 1 _ rfl;have c2:=j 2 _ rfl;have c3:=j 3 _ rfl;have c4:=j 4 _ rfl;have c5:=j 5 _ rfl;have D:Xq _:=(z.o k wr (mE L k) q.o (by omega) (C.o k l));generalize mE L k=o at *;rw[YM]at U;replace E:F=some ⟨V,0,none⟩:=E;subst E;clear u j q;go_upto_region 6 with (go_at_call 8;refine Xx D.o ?_;rintro e w1 ⟨rfl,b⟩)
  have S:Xq _:=(x.o (k+1) w1 b (by omega));have B:Xq _:=b;clear b;go_wp2_with (go_at_call 9;refine Xx S.o ?_;rintro e w2 ⟨rfl,k2⟩);go_roundg (L.length-(k+1))
  ·exact⟨k+1,by omega,rfl,by go_num,v.o _ _ _ B.o k2⟩
  omega
 ·have R:Xq _:=u.1;clear u q;go_wp2;go_ret;exact⟨rfl,R.o⟩
theorem OK{L:List oU}{o:oU}{p:oU->Prop}(h:∀i,i<L.length->p (mE L i))(b:p o):∀i,i<(L++[o]).length->p (mE (L++[o]) i):=by
 intro i a;rw[XC]at a;replace a:i<L.length+1:=a;unfold mE;rw[Xw];by_cases e:i<L.length
 ·have:=h i e;unfold mE at this;rw[Xw]at this;rw[XP e];exact this
 ·rw[XO (by omega),show i-L.length=0 by omega];exact b
def Fv(K:List Int)(k:Int)(q:Nat):Bool:=((decide (1<=k)&&decide (k<=10))||(decide (15<=k)&&decide (k<=18)))||(K.take q).any (fun x=>k==x)
theorem Av(h:g<1∨(10<g/\g<15)∨18<g):Fv u g 0=false:=by
 unfold Fv;rw[ZS,List.any_nil,Y8];simp;omega
theorem GM(h:(1<=g/\g<=10)∨(15<=g/\g<=18))(q:Nat):Fv u g q=true:=by
 unfold Fv;have:((decide (1<=g)&&decide (g<=10))||(decide (15<=g)&&decide (g<=18)))=true:=by simp;omega
 rw[this];rfl
theorem RM(K:List Int)(k:Int)(q:Nat)(h:q<K.length):Fv K k (q+1)=(Fv K k q||(k==K[q])):=by
 unfold Fv;rw[Zap,Xv h,Za6,<-Z3];simp
theorem Vv(h:Fv u g T=true):((1<=g/\g<=10)∨(15<=g/\g<=18))∨g∈u:=by
 unfold Fv at h;rw[Yo]at h;rcases h with h | h
 ·left;simp at h;omega
 ·right
  obtain⟨x,a,b⟩:=Yu.1 h;rw[ZR b];exact Zx a
def zG(w:World)(ka:Xt)(K:List Int):Prop:=∀q (hq:q<K.length),∃kb,ka=some ⟨kb,0,none⟩/\kb<w.heap.size/\w.cell? ⟨kb,q,none⟩=some (int i64 K[q])
theorem zG.Zbj(h:zG H z8 u)(k:aa [] H D):zG D z8 u:=fun q b=>by
 obtain⟨a,e,z,c⟩:=h q b;exact⟨a,e,XB z k.size,by rw[XJ (k.block a z (by simp))];exact c⟩
theorem zG.of(h:H.heap[T]?=some (.cells (u.map (int i64)).toArray 3)):zG H (some ⟨T,0,none⟩) u:=fun q a=>⟨T,rfl,ah h,by rw[ab h];simp[a]⟩
theorem OR(X:oU->Prop)(S:Xt)(G:Nat)(l:List oU)(K:List Int)(V:Xt)(w:World)(hl:l.length<=140737488351232)(hi:oj w S l)(ho:∀o∈l,Cc o)(J:zG w V K)(ax:K.length<=100)(hK:∀o∈l,o.k∈K->X o)(hU:∀h L wr,aa [] w wr->aD wr h (jo L)->L.length<=1073741824->(∀i,i<L.length->FF X (mE L i))->Calls prog 7 #[slice h.ao L.length h.cap] wr fun e w'=>e=returned (int i64 (-1))/\aa [] w w') :
  Calls prog 5 #[slice S l.length G,slice V K.length K.length] w fun e w'=>e=returned (bool true)/\aa [] w w':=by
 have ai:Xq _:=Lj S G l w hl hi ho;have HI:Xq (oj w S l):=hi;have HO:Xq _:=ho;have W:Xq (zG w V K):=J;have Y:Xq _:=hK;have an:Xq _:=hU;obtain⟨iX,ar,P,Q,R⟩:=XV RQ;clear hi ho J hK hU;go_enter func5,ntmps5;go_upto_region 2 with (go_at_call 6;refine Xx ai.o ?_;rintro e w1 ⟨⟨r,rfl,hr⟩,k1⟩)
 have D:Xq _:=k1;have HR:Xq _:=hr;clear k1 hr;cases r
 ·go_wp2;go_ret;exact⟨rfl,D.o⟩
 ·obtain⟨a0,N⟩:=HR.o rfl;have al:Xq _:=N;have ac:Xq (iG w w1 ⟨none,0⟩ (jo [])):=⟨XE _ _ _ _,(by intro k hk;cases hk),D.o⟩;clear N HR;go_wp2
  go_loopg [6,7] l.length (fun g lv iv wr=>∃(k:Nat) (x:Hd) (L:List oU),k<=l.length/\g=l.length-k/\lv=slice x.ao L.length x.cap/\iv=int i64 k/\L.length<=k/\Xq (∀i,i<L.length->FF X (mE L i))/\Xq (iG w wr x (jo L)))
  ·exact⟨0,⟨none,0⟩,[],by omega,rfl,rfl,rfl,by simp,(fun i h=>by cases h),ac⟩
  obtain⟨k,x,L,hk,hg,rfl,rfl,az,v,u⟩:=hrel;rcases kn k l.length with ⟨s,aT⟩ | ⟨s,a1⟩
  ·obtain⟨b,a5,rfl,hb,y⟩:=(oj.Zbj HI.o u.o.Zbw) k _ (nP l k s);have m:=YH (nP l k s);have I:=HO.o (mE l k) m;have M:=Y.o (mE l k) m;have c0:=y 0 _ rfl;have c1:=y 1 _ rfl;have c2:=y 2 _ rfl;have c3:=y 3 _ rfl;have c4:=y 4 _ rfl;have c5:=y 5 _ rfl;rw[YM]at c0;have O:=al.o k s;have t:Xq _:=I;have F:Xq _:=O;have Z:Xq _:=M;have ag:Xq (zG wr V K):=zG.Zbj W.o u.o.Zbw;generalize mE l k=o at *;clear y I O M m;have ap:=u.o.ZbH;have aq:Xq ((jo L).n<=4294967296):=(by show L.length<=_;omega);have E:Xq ((jo L).n=L.length):=rfl
   have C:Xq (Fv K o.k K.length=true->FF X o):=fun q=>⟨t.o.a,t.o.c,t.o.d,F.o.1,F.o.2,by
    rcases Vv q with (q | q) | q
    ·exact XQ q
    ·exact XK (XQ q)
    ·exact XK (XK (Z.o q))⟩
   have z:(o.k<1/\Xq (Fv K o.k 0=false))∨((10<o.k/\o.k<15)/\Xq (Fv K o.k 0=false))∨(18<o.k/\Xq (Fv K o.k 0=false))∨((1<=o.k/\o.k<=10)/\Xq (Fv K o.k 0=true))∨((15<=o.k/\o.k<=18)/\Xq (Fv K o.k 0=true)):=by
    by_cases z1:o.k<1
    ·exact XQ ⟨z1,Av (XQ z1)⟩
    ·by_cases z2:o.k<=10
     ·exact XK (XK (XK (XQ ⟨⟨by omega,z2⟩,GM (XQ ⟨by omega,z2⟩) 0⟩)))
     ·by_cases z3:o.k<15
      ·exact XK (XQ ⟨⟨by omega,z3⟩,Av (XK (XQ ⟨by omega,z3⟩))⟩)
      ·by_cases z4:o.k<=18
       ·exact XK (XK (XK (XK ⟨⟨by omega,z4⟩,GM (XK ⟨by omega,z4⟩) 0⟩)))
       ·exact XK (XK (XQ ⟨by omega,Av (XK (XK (by omega)))⟩))
   rcases z with ⟨T,f⟩ | ⟨⟨T,h2⟩,f⟩ | ⟨T,f⟩ | ⟨⟨T,h2⟩,f⟩ | ⟨⟨T,h2⟩,f⟩
   all_goals
    go_wp2
    go_loopg [9,10] K.length (fun g a j w2=>∃q:Nat,q<=K.length/\g=K.length-q/\a=bool (Fv K o.k q)/\j=int i64 q/\wr=w2)
    ·exact⟨0,by omega,rfl,congrArg bool (by rw[f.o] <;> simp <;> omega),rfl,rfl⟩
    obtain⟨q,hq,aS,rfl,rfl,rfl⟩:=hrel;rcases kn q K.length with ⟨A,a2⟩ | ⟨A,-⟩
    ·obtain⟨kb,rfl,a4,cq⟩:=ag.o q A;have p:Xq _:=RM K o.k q A;generalize K[q]=kq at *;cases U:Fv K o.k q
     ·rw[U,Y7]at p;go_wp2;go_roundg (K.length-(q+1))
      ·exact⟨q+1,by omega,rfl,congrArg bool p.o.symm,by go_num,rfl⟩
      omega
     ·rw[U,ZV]at p;go_wp2;go_roundg (K.length-(q+1))
      ·exact⟨q+1,by omega,rfl,congrArg bool p.o.symm,by go_num,rfl⟩
      omega
    ·have av:q=K.length:=(by omega);subst av;have a3:¬(K.length:Int)<K.length:=by omega
     cases U:Fv K o.k K.length
     ·go_wp2;go_roundg (l.length-(k+1))
      ·exact⟨k+1,x,L,by omega,rfl,rfl,by go_num,by omega,v,u⟩
      omega
     ·have af:Xq _:=C.o U;go_wp2_with (at_builtin;refine dL wr rfl (.tmp 57) (.tmp 62) 22 rfl iX (agg #[int i64 0,int i64 0,int i64 0,int i64 0,string ⟨#[]⟩,string ⟨#[]⟩]) 64 x (jo L) (Qr o) underlying22 ar P Q R rfl (show 0<6 by omega) (by rw[E.o];simp[Act.eval]) ap aq.o (by omega) (by simp[Act.eval]) rfl (EV o) ?_;intro h5 w5 B H;rw[jo,fT]at B;have ad:Xq _:=u.o.Zbt H B;clear B H);go_roundg (l.length-(k+1))
      ·exact⟨k+1,h5,L++[o],by omega,rfl,by rw[E.o,XC];rfl,by go_num,by rw[XC];show _+1<=_;omega,OK v.o af.o,ad⟩
      omega
  ·have am:Xq _:=an.o x L wr u.o.Zbw u.o.ZbH (by omega) v.o;go_wp2_with (go_at_call 7;refine Xx am.o ?_;rintro e w5 ⟨rfl,k5⟩);go_ret;exact⟨rfl,k5⟩
set_option maxRecDepth 512
theorem uL(d:Xt)(q r:Nat)(L:Xs)(w:World)(j:iB w z0 L)(l:iB w d L)(F:L.length<=4294967296) :
  Calls prog 24 #[slice z0 L.length q,slice d L.length r] w fun e u=>e=returned (bool true)/\∃n,u=w.drewN n:=by
 have m:Xq (iB w z0 L):=j;have p:Xq (iB w d L):=l;clear j l;go_enter func24,ntmps24;go_wp2
 go_loopg [5] L.length (fun g i wr=>∃k:Nat,k<=L.length/\g=L.length-k/\i=int i64 k/\Xq (∃n,wr=w.drewN n))
 ·exact⟨0,by omega,by omega,rfl,0,rfl⟩
 obtain⟨k,E,D,rfl,b⟩:=hrel;have f:Xq (aa [] w wr):=by show aa _ _ _;obtain⟨n,e⟩:=b.o;rw[e];exact(aa.refl [] w).drewN n
 rcases kn k L.length with ⟨a,s⟩ | ⟨a,t⟩
 ·obtain⟨z,rfl,B,v⟩:=(iB.Zbj m.o f.o) k _ (Xv a);obtain⟨A,rfl,C,y⟩:=(iB.Zbj p.o f.o) k _ (Xv a);generalize L[k]=x at *;go_upto_region 6 with fail
  go_quiet (fail);have c:Xq (∃n,wr.drewN nq=w.drewN n):=by show ∃_,_;obtain⟨n,e⟩:=b.o;exact⟨n+nq,by rw[e,Zaq]⟩
  go_wp2;go_roundg (L.length-(k+1))
  ·exact⟨k+1,by omega,rfl,by go_num,c⟩
  omega
 ·go_wp2;go_ret;exact⟨rfl,b.o⟩
def Oh(bo:Option Nat)(L:Xs):It where
 B:=bo.toList
 P w:=yW w bo L
 lt w a q hq:=by
  cases bo with
  | none=>cases hq
  | some b=>rw[ZaM,XH]at hq;rw[hq];exact ah (a.Zbx b rfl)
 ok S w w' a k hb:=⟨a.nil,fun b e=>k.get (a.Zbx b e) (hb b (by rw[e];simp))⟩
theorem Vy(h:T∈(Oh M I).B):M=some T:=by
 replace h:T∈M.toList:=h;cases M with
 | none=>cases h
 | some g=>rw[ZaM,XH]at h;rw[h]
theorem yW.srcX(h:yW H M I):iB H (Az M) I:=by
 intro k x a;cases M with
 | none=>rw[h.nil.1 rfl]at a;cases a
 | some b =>
  have c:=h.Zbx b rfl;exact⟨b,rfl,ah c,by rw[ab c];simp[dc,a]⟩
abbrev Tx:=Option Nat×Hd×List ByteArray
def WD(t:Tx):List Value:=[slice (Az t.1) t.2.2.length t.2.2.length,slice t.2.1.ao t.2.2.length t.2.1.cap]
def oq(TS:List Tx):eD:=lu 63 2 WD TS
structure Txt(I:Nat×Nat->It)(tv:Value)(ht:Hd)(TS:List Tx)(N:Nat):Prop where
 e:tv=slice ht.ao TS.length ht.cap
 r:I (11,0)=de ht (oq TS)
 l:∀k bo h L,TS[k]?=some (bo,h,L)->I (12,k)=Oh bo L/\I (13,k)=de h (aE L)/\L.length<=900000000
 n:TS.length<=3*N
structure dj(w:World)(b:Nat)(I:Nat×Nat->It)(M:Mc)(ht:Hd)(TS:List Tx)(N:Nat):Prop where
 m:cU w b I M N
 q:M.qv=slice none 0 0
 t:Txt I M.tv ht TS N
theorem dj.Zbj{a:List Tx}(h:dj H T d k v a y)(b:aa [] H D):dj D T d k v a y:=⟨h.m.Zbj b,h.q,h.t⟩
theorem dj.more{a:List Tx}(h:dj H T d k v a y):dj H T d k v a (y+1):=⟨h.m.more,h.q,{ h.t with n:=by have:=h.t.n;omega }⟩
def rT(b:Nat)(I:Nat×Nat->It)(N:Nat)(e:Ending)(w':World):Prop:=e=returned (bool true)/\∃I' M' ht' TS',dj w' b I' M' ht' TS' (N+1)/\∀j i,j=10∨(14<=j/\j<=16)->I' (j,i)=I (j,i)
theorem dj.up{c:List Tx}(h:dj H T d k v c y)(s:jS T d k y true zf D):rT T d y zf D:=by
 obtain⟨m,e,f,o,a⟩:=s;refine⟨m,e,f,v,c,⟨o,a.q.trans h.q,⟨a.t.trans h.t.e,(a.k 11 0 (by decide)).trans h.t.r,fun b g p L u=>?_,by have:=h.t.n;omega⟩⟩,fun j i w=>a.k j i (by omega)⟩;rw[a.k 12 b (by decide),a.k 13 b (by decide)];exact h.t.l b g p L u
theorem dj.rowOwn{a:List Tx}(h:dj H T d k v a y):aD H v (oq a):=by have:=h.m.sep.all (11,0);rw[h.t.r]at this;exact this
theorem dj.c16{a:List Tx}(h:dj H T d k v a y):H.cell? ⟨T,16,none⟩=some (slice v.ao a.length v.cap):=by rw[ab h.m.Zbx,<-h.t.e];rfl
theorem dj.at_{j:List Tx}(h:dj H T d k v j y)(s:i<j.length):∃b a L g,j[i]?=some (b,a,L)/\(v.ao=some ⟨g,0,none⟩/\g<H.heap.size/\H.cell? ⟨g,i*2,none⟩=some (slice (Az b) L.length L.length)/\H.cell? ⟨g,i*2+1,none⟩=some (slice a.ao L.length a.cap))/\yW H b L/\aD H a (aE L)/\L.length<=900000000:=by
 obtain⟨⟨b,a,L⟩,e⟩:∃x,j[i]?=some x:=⟨j[i],Xv s⟩
 obtain⟨g,r,z,c⟩:=(aD.srcG (f:=WD) h.rowOwn (fun _=>rfl)) i _ e;obtain⟨p,q,u⟩:=h.t.l i b a L e;have n:=h.m.sep.all (12,i);have o:=h.m.sep.all (13,i);rw[p]at n;rw[q]at o;exact⟨b,a,L,g,e,⟨r,z,c 0 _ rfl,c 1 _ rfl⟩,n,o,u⟩
set_option maxRecDepth 100000
theorem Ot(p:List Tx)(j:World)(h:dj j b x w N p S)(hN:S<=1073741825) :
  Calls prog 9 #[pointer (some ⟨b,0,none⟩)] j fun e G=>e=returned (bool true)/\aa [] j G:=by
 have X:Xq (dj j b x w N p S):=h;have W:Xq (cU j b x w S):=h.m;have Y:j.cell? ⟨b,15,none⟩=some (slice none 0 0):=by rw[ab h.m.Zbx,<-h.q];rfl
 have ac:=h.m.len.2.2;have ad:=h.t.n;clear h;go_enter func9,ntmps9;go_wp2
 go_loopg [3] 0 (fun g i wr=>g=0/\i=int i64 0/\j=wr)
 ·exact⟨rfl,rfl,rfl⟩
 obtain⟨K,rfl,rfl⟩:=hrel;go_wp2
 go_loopg [5] p.length (fun g i wr=>∃k:Nat,k<=p.length/\g=p.length-k/\i=int i64 k/\Xq (aa [] j wr))
 ·exact⟨0,by omega,rfl,rfl,aa.refl _ _⟩
 obtain⟨k,hk,ag,rfl,s⟩:=hrel;have z:Xq (dj wr b x w N p S):=X.o.Zbj s.o;have I:=z.o.c16;by_cases y:k<p.length
 ·obtain⟨Q,J,L,g,-,⟨K,gz,g0,g1⟩,U,T,hl⟩:=z.o.at_ y;rw[K]at I;have v:Xq (∀n,Calls prog 24 #[slice (Az Q) L.length L.length,slice J.ao L.length J.cap] (wr.drewN n) fun e G=>e=returned (bool true)/\∃m,G=(wr.drewN n).drewN m):=fun n=>uL (Az Q) J.ao _ _ L (wr.drewN n) (iB.Zbj U.srcX (bH.drewN n)) (iB.Zbj T.srcX (bH.drewN n)) (by omega);have M:(k:Int)<p.length:=by omega
  clear U T K;go_upto_region 10 with fail
  go_quiet ((go_at_call 24;exact ZaI (v.o _)));have u:Xq (aa [] j (wr.drewN nq)):=s.o.drewN nq;go_wp2;go_roundg (p.length-(k+1))
  ·exact⟨k+1,by omega,rfl,by go_num,u⟩
  omega
 ·have O:¬(k:Int)<p.length:=by omega
  have H:Xq _:=s.o;clear s;go_wp2
  go_loopg [7] w.L.length (fun g i wr=>∃k:Nat,k<=w.L.length/\g=w.L.length-k/\i=int i64 k/\Xq (aa [] j wr))
  ·exact⟨0,by omega,rfl,rfl,H⟩
  obtain⟨k,hk,ai,rfl,s⟩:=hrel;have d:Xq (cU wr b x w S):=W.o.Zbj s.o;have Z:wr.cell? ⟨b,3,none⟩=some (slice w.hl.ao w.L.length w.hl.cap):=by rw[ab d.o.Zbx];rfl
  have c4:wr.cell? ⟨b,4,none⟩=some (slice w.hc.ao w.L.length w.hc.cap):=by rw[ab d.o.Zbx];rfl
  by_cases y:k<w.L.length
  ·obtain⟨⟨a,c,f⟩,r⟩:∃P,w.L[k]?=some P:=⟨w.L[k],Xv y⟩
   obtain⟨A,B,-,af⟩:=d.o.l k a c f r;obtain⟨gl,E,gz,R⟩:=qO d.o.ownL (k:=k) (x:=(a,f)) (by rw[Yi,r];rfl);obtain⟨gr,F,rz,V⟩:=qO d.o.ownC (k:=k) (x:=(c,f)) (by rw[Yi,r];rfl);replace R:wr.cell? ⟨gl,k,none⟩=some (slice (Az a) f.length f.length):=R;replace V:wr.cell? ⟨gr,k,none⟩=some (slice (Az c) f.length f.length):=V;rw[E]at Z;rw[F]at c4;have C:jZ wr a f:=(by have:=d.o.sep.all (8,k);rw[A]at this;exact this);have D:jZ wr c f:=(by have:=d.o.sep.all (9,k);rw[B]at this;exact this);have v:Xq (∀n,Calls prog 25 #[slice (Az a) f.length f.length,slice (Az c) f.length f.length] (wr.drewN n) fun e G=>e=returned (bool true)/\∃m,G=(wr.drewN n).drewN m):=fun n=>qk (Az a) (Az c) _ _ f (wr.drewN n) (mC.Zbw C.src (bH.drewN n) (by simp)) (mC.Zbw D.src (bH.drewN n) (by simp)) (by omega);have M:(k:Int)<(w.L.length:Int):=(by omega);clear r A B E F C D;(go_upto_region 16 with fail);go_quiet ((go_at_call 25;exact ZaI (v.o _)));have u:Xq (aa [] j (wr.drewN nq)):=s.o.drewN nq;go_wp2;go_roundg (w.L.length-(k+1))
   ·exact⟨k+1,by omega,rfl,by go_num,u⟩
   omega
  ·have O:¬(k:Int)<(w.L.length:Int):=(by omega);go_wp2;go_ret;exact⟨rfl,s.o⟩
theorem zaH:(prog.info? 63).map (fun i=>(i.zero,i.size,i.bytes))=some (some (agg #[slice none 0 0,slice none 0 0]),2,48):=by kernel_rfl
theorem cU.retv(h:cU H T d k y)(s:qq D z6)(v:Value)(e:z6 (0,0)=vk T 42 ({ k with tv:=v }:Mc).cells)(a:∀j i,0<j->j<10->z6 (j,i)=d (j,i)):cU D T z6 { k with tv:=v } y:={
 sep:=s
 w0:=e
 x:=by rw[a 1 0 (by decide) (by decide)];exact h.x
 m:=by rw[a 2 0 (by decide) (by decide)];exact h.m
 r:=by rw[a 3 0 (by decide) (by decide)];exact h.r
 ls:=by rw[a 4 0 (by decide) (by decide)];exact h.ls
 lw:=by rw[a 5 0 (by decide) (by decide)];exact h.lw
 v:=fun i x m b c=>by rw[a 6 i (by decide) (by decide),a 7 i (by decide) (by decide)];exact h.v i x m b c
 l:=fun i x m b c=>by rw[a 8 i (by decide) (by decide),a 9 i (by decide) (by decide)];exact h.l i x m b c
 fit:=h.fit
 len:=h.len
 rng:=h.rng }
theorem Bx{a:It}(b:10<=T)(c:i<10):gC d (T,y) a (i,z5)=d (i,z5):=aA _ _ (bJ (by omega))
theorem dj.re{b:List Tx}(h:dj H T d k v b y)(s:qq D z6)(a:∀j i,j<12∨(j<14/\i<b.length)->z6 (j,i)=d (j,i)):dj D T z6 k v b y:=by
 refine⟨h.m.retv s k.tv (by rw[a 0 0 (by omega)];exact h.m.w0) (fun j i _ c=>a j i (by omega)),h.q,⟨h.t.e,by rw[a 11 0 (by omega)];exact h.t.r,fun j f g L c=>?_,h.t.n⟩⟩;have o:=(XL.1 c).1;rw[a 12 j (by omega),a 13 j (by omega)];exact h.t.l j f g L c
theorem dj.lay{c:List Tx}(h:dj H T d k v c y)(b:It){a:Nat}(o:(12<=a/\i=c.length)∨14<=a)(n:aa [] H D)(g:b.P D)(f:∀q,q∈b.B->H.heap.size<=q):dj D T (gC d (a,i) b) k v c y :=
 h.re (h.m.sep.put (a,i) b (n.mono (by simp)) g (fun q l=>XK (f q l))) (fun j r p=>aA _ _ (fun e=>by cases e;omega))
theorem dj.add{b:List Tx}{n:Hd}(h:dj H T d k v b y)(u:d (12,b.length)=Oh M I)(w:d (13,b.length)=de n (aE I))(F:I.length<=900000000)(G:b.length+1<=3*y)(g:bL H D v t)(o:aD D t (oq (b++[(M,n,I)]))) :
  ∃A J z f,dj (D.setCell ⟨T,16,none⟩ (slice t.ao (b.length+1) t.cap)) T A { k with tv:=J } z f y/\f.length=b.length+1/\∀j i,(0<j/\j<=10)∨14<=j->A (j,i)=d (j,i):=by
 have s:=h.m.sep.grown h.m.w0 (bJ (by decide)) h.t.r g o 16 (slice t.ao (b.length+1) t.cap);have m:=h.m.retv s (slice t.ao (b.length+1) t.cap) (b9 _ _ _) (fun j i K E=>by rw[aA _ _ (bJ (by omega)),Bx (by decide) E]);have q:∀a i,11<a->gC (gC d (11,0) (de t (oq (b++[(M,n,I)])))) (0,0) (vk T 42 (k.cells.set 16 (slice t.ao (b.length+1) t.cap))) (a,i)=d (a,i):=fun a i L=>by rw[aA _ _ (bJ (by omega)),aA _ _ (bJ (by omega))]
 refine⟨_,_,t,b++[(M,n,I)],⟨m,h.q,⟨by rw[XC];rfl,by rw[aA _ _ (bJ (by decide))];exact b9 _ _ _,fun j p x B c=>?_,?_⟩⟩,XC,?_⟩
 ·rw[q 12 j (by decide),q 13 j (by decide)];by_cases e:j<b.length
  ·rw[XP e]at c;exact h.t.l j p x B c
  ·have C:j=b.length:=by
    have:=(XL.1 c).1;rw[XC]at this;have:j<b.length+1:=this;omega
   subst C;rw[XO (Xy _),YA]at c;cases c
   exact⟨u,w,F⟩
 ·rw[XC];exact G
 ·intro j i c;rw[aA _ _ (bJ (by omega)),aA _ _ (bJ (by omega))]
def zbL(b:Nat)(I:Nat×Nat->It)(M:Mc)(n N:Nat)(e:Ending)(w':World):Prop:=e=returned (bool true)/\∃I' v ht' TS',dj w' b I' { M with tv:=v } ht' TS' N/\TS'.length=n/\∀j i,(0<j/\j<=10)∨14<=j->I' (j,i)=I (j,i)
def FI(b:Nat)(I:Nat×Nat->It)(M:Mc)(n N:Nat)(e:Ending)(w':World):Prop:=e=returned (bool true)/\∃I' v ht' TS',dj w' b I' { M with tv:=v } ht' TS' N/\TS'.length=n/\∀j i,(0<j/\j<=10)∨(14<=j/\j<=16)->I' (j,i)=I (j,i)
theorem FI.ms(h:FI T d k y (i+1) zf H):rT T d i zf H:=by
 obtain⟨e,c,v,b,a,f,-,g⟩:=h;exact⟨e,c,_,b,a,f,fun j l m=>g j l (by omega)⟩
theorem Oj(c:List Tx)(s:Option Nat)(y:Hd)(L:Xs)(C:World)(h:dj C b x w N c S)(hN:S<=1073741825)(hn:c.length+1<=3*S)(D:x (12,c.length)=Oh s L)(hO:aD C y (aE L))(hl:L.length<=900000000) :
  Calls prog 40 #[pointer (some ⟨b,0,none⟩),slice (Az s) L.length L.length,slice y.ao L.length y.cap] C fun e w'=>zbL b x w (c.length+1) S e w':=by
 have hX:yW C s L:=by have:=h.m.sep.all (12,c.length);rw[D]at this;exact this
 have P:Xq _:=(uL (Az s) y.ao L.length y.cap L C hX.srcX hO.srcX (by omega));have HM:Xq (dj C b x w N c S):=h;have an:Xq _:=D;have HO:Xq (aD C y (aE L)):=hO;obtain⟨iS,a2,ac,af,ag⟩:=XV i9;obtain⟨iT,a3,ai,al,am⟩:=XV zaH;have aq:Xq _:=hn;have F:Xq (y.ao=none->L.length=0/\y.cap=0):=fun e=>by
  rcases hO.Zbu with ⟨v,e2,e3⟩ | ⟨g,ax,v,-⟩
  ·exact⟨e2,by rw[v]⟩
  ·rw[e]at v;cases v
 have Y:Xq (∀u∈dc L,u.oneCell'=true):=fun u hu=>by
  obtain⟨ba,-,rfl⟩:=YN.1 hu;rfl
 have X:Xq ((dc L).length=L.length*1):=cm (by rw[dc,XZ,ZN]);have p:(L.length=0/\Az s=none)∨L.length≠0:=by
  by_cases e:L=[]
  ·exact XQ ⟨by rw[e];rfl,by rw[hX.nil.2 e];rfl⟩
  ·exact XK (fun e2=>e (Zan.1 e2))
 have aS:∀w',aD w' ⟨none,0⟩ (aE []):=fun w'=>XE _ _ _ _;have a0:Xq ((oq c).n<=4294967296):=by show c.length<=_;omega
 have Q:Xq ((oq c).n=c.length):=rfl;have a5:Xq ((⟨(aE []).e,(aE []).size,(aE []).n+L.length,(aE []).xs++dc L⟩:eD)=aE L):=by show eD.mk _ _ (0+L.length) ([]++dc L)=_;rw[Zf];rfl
 have az:Xq ((aE []).n+L.length<=1000000000):=by show 0+L.length<=_;omega
 have a4:Xq ((aE []).n+L.length=L.length):=Zf _;clear h hX D;have f:((((L.length:Int)==0)=true/\Az s=none))∨((L.length:Int)==0)=false:=by
  rcases p with ⟨h0,hn⟩ | h0
  ·exact XQ ⟨by rw[h0];rfl,hn⟩
  ·exact XK (X6.2 (by omega))
 clear p;obtain⟨ra,R⟩:=aP (Az s);rw[R.o]at P f ⊢;have ar:Xq (∀k:Hd,WD (s,k,L)=[slice ra L.length L.length,slice k.ao L.length k.cap]):=fun k=>by rw[<-R.o];rfl
 obtain⟨l,A⟩:=y;rcases f with ⟨h0,rfl⟩ | h0
 all_goals
  go_enter func40,ntmps40;go_upto_region 2 with (go_at_call 24;refine Xx P.o ?_;rintro e w1 ⟨rfl,n1,Z⟩;have M:Xq (aa [] C w1):=(by show aa _ _ _;rw[Z];exact bH.drewN n1);clear Z)
  have O:Xq (aD w1 ⟨l,A⟩ (aE L)):=HO.o.Zbj M.o;have a1:Xq (∀ad,l=some ad->∀j u,(dc L)[j]?=some u->w1.cell? (ad.add j)=some u):=fun ad e j u W=>by
   rcases O.o.Zbu with ⟨v,-,-⟩ | ⟨g,ax,v,e2,-⟩
   ·rw[show l=none from congrArg Hd.ao v]at e;cases e
   ·rw[show l=some ⟨g,0,none⟩ from v]at e;cases e
    rw[bE];exact(O.o.cell v j u W)
  go_upto_region 4 with fail
  go_upto_region 5 with (at_builtin;refine dK _ rfl (.const (slice none 0 0)) (.tmp 30) 61 rfl iS (string ⟨#[]⟩) 16 ⟨none,0⟩ (aE []) underlying61 a2 ac af ag rfl XR rfl (aS _) l L.length A (dc L) rfl X.o F.o a1.o Y.o az.o (by omega) ?_;intro k w5 G E;rw[a5.o]at G;rw[a4.o])
  have ap:Xq (aa [] w1 w5):=E.Zbw.mono (by simp[Hd.Zbx])
  have d:=(show Xq _ from(HM.o.Zbj M.o).lay (de k (aE L)) (a:=13) (XQ ⟨by decide,rfl⟩) ap.o G (fun q B=>by
   have B:=aX B;rcases E.Zbx with e | ⟨g,e,hg⟩
   ·rw[e]at B;cases B
   ·rw[e]at B;cases B;exact hg))
  have J:Xq (gC x (13,c.length) (de k (aE L)) (12,c.length)=Oh s L):=cm (by rw[aA _ _ (bJ (by decide))];exact an.o);have K:Xq _:=b9 x (13,c.length) (de k (aE L));have I:Xq (∀j i,(0<j/\j<=10)∨14<=j->gC x (13,c.length) (de k (aE L)) (j,i)=x (j,i)):=fun j i W=>aA _ _ (bJ (by omega));clear G E;generalize gC x (13,c.length) (de k (aE L))=I5 at *;have a7:=d.o.c16;have aT:=d.o.rowOwn;have H:Xq (b∉N.Zbx.toList):=fun B=>d.o.m.sep.far (0,0) (11,0) (bJ (by decide)) b (by rw[d.o.m.w0];exact XH.2 rfl) (by rw[d.o.t.r];exact B);obtain⟨T,U⟩:=k;go_wp2_with (at_builtin;refine dL w5 rfl (.tmp 36) (.tmp 40) 40 rfl iT (agg #[slice none 0 0,slice none 0 0]) 48 N (oq c) [slice _ L.length L.length,slice T L.length U] underlying40 a3 ai al am rfl Zaz (by rw[Q.o];simp[Act.eval]) aT a0.o (by omega) (by simp[Act.eval]) rfl (by intro u hu;simp only[List.mem_cons,List.not_mem_nil,or_false]at hu;rcases hu with rfl | rfl <;> rfl) ?_;intro h7 w7 z V;replace z:aD w7 h7 ⟨(oq c).e,(oq c).size,(oq c).n+1,(oq c).xs++WD (s,⟨T,U⟩,L)⟩:=(by rw[ar.o];exact z);rw[oq,fT]at z;have p7:=V.Zbw.get d.o.m.Zbx H.o;have f7:=zcW p7;have c7:w7.cell? ⟨b,16,none⟩=some (slice N.ao c.length N.cap):=(by rw[ab p7,<-d.o.t.e];rfl);have z7:=ah p7;have HF:Xq _:=d.o.add J.o K.o hl aq.o V z;rw[Q.o]);go_ret;obtain⟨I',v',a6,av,q1,q2,q3⟩:=HF.o;exact⟨rfl,I',v',a6,av,q1,q2,fun j i W=>(q3 j i W).trans (I.o j i W)⟩
theorem zbh(M:List Tx)(A C D:Int)(s t:Xr)(y:World)(h:dj y b x w N M S)(hV:w.V.length≠0)(hA:tP A)(hC:tP C)(hN:S<=1073741824)(P:∀i G m Z hd lo hi u r st c a,dj a b x w N M S->qx a x w i G m Z hd lo hi u r st->Calls prog 22 #[pointer (some ⟨b,0,none⟩),pointer (some ⟨G,0,none⟩),pointer (some ⟨m,0,none⟩),string c,string s,int i64 D] a fun e n=>rT b x S e n) :
  Calls prog 8 #[pointer (some ⟨b,0,none⟩),agg #[int i64 19,int i64 A,int i64 C,int i64 D,string s,string t]] y fun e n=>rT b x S e n:=by
 obtain⟨W,HW⟩:=aP (y.alloc (.cells #[int i64 19,int i64 A,int i64 C,int i64 D,string s,string t] 28));obtain⟨hM,hB,av,R⟩:=h.m.boxed 19 A C D s t W HW.o;have HT:Xq (dj W b x w N M S):=h.Zbj R;obtain⟨z,B,o2,o3,o4,o5,E⟩:=dG hB;have HL:Xq _:=(mX b S x w 19 A C D s t W hM (by omega));have HS:Xq (iW W b y.heap.size x w S 19 A C D s t):=⟨hM,hB⟩;have ar:=h.m.len.1;have I:Xq (∀a,Calls prog 11 #[int i64 A,int i64 w.V.length] a fun e n=>e=returned (int i64 (fH A w.V.length:Nat))/\n=a):=fun a=>fS A w.V.length a hA ⟨by omega,by omega⟩;have Q:=iw A w.V.length (by omega);obtain⟨i,Hi⟩:=aP (fH A w.V.length);rw[Hi.o]at I Q;have aq:((w.V.length:Int)==0)=false:=X6.2 (by omega);have aT:(i:Int)<(w.V.length:Int):=by omega
 clear h hM hB R;go_enter func8,ntmps8;go_upto_region 1 with fail
 rw[HW.o];go_upto_region 2 with (go_at_call 10;refine Xx HL.o ?_;rintro e w1 ⟨rfl,k1⟩)
 have p:Xq (iW w1 b y.heap.size x w S 19 A C D s t):=HS.o.Zbj k1;have al:Xq (dj w1 b x w N M S):=HT.o.Zbj k1;clear z B o2 o3 o4 o5 E k1;obtain⟨z,B,-⟩:=dG p.o.o;have E:=ah p.o.o;have Y:w1.cell? ⟨b,0,none⟩=some (slice w.hx.ao w.V.length w.hx.cap):=by rw[ab p.o.m.Zbx];rfl
 go_upto_region 4 with fail
 go_quiet ((go_at_call 11;exact XW (I.o _)));go_upto_region 5 with fail
 obtain⟨F,v⟩:=aP (w1.drewN nq);rw[v.o];have l:Xq (iW F b y.heap.size x w S 19 A C D s t):=p.o.Zbj (by rw[<-v.o];exact bH.drewN nq);have K:Xq (dj F b x w N M S):=al.o.Zbj (by rw[<-v.o];exact bH.drewN nq);clear z B E Y;obtain⟨z,B,o2,o3,o4,o5,E⟩:=dG l.o.o;obtain⟨G,m,Z,hd,lo,hi,u,r,st,g1,g2,j,⟨e1,z1,d1⟩,O,z2,d2⟩:=l.o.m.ver Q;have Y:F.cell? ⟨b,0,none⟩=some (slice w.hx.ao w.V.length w.hx.cap):=by rw[ab l.o.m.Zbx];rfl
 have c1:F.cell? ⟨b,1,none⟩=some (slice w.hm.ao w.V.length w.hm.cap):=by rw[ab l.o.m.Zbx];rfl
 rw[e1]at Y;rw[O]at c1;have ag:Xq _:=Re m Z hd u r st F j.d j.st j.le j.ok;have ad:Xq (∀c a,aa [] F a->Calls prog 22 #[pointer (some ⟨b,0,none⟩),pointer (some ⟨G,0,none⟩),pointer (some ⟨m,0,none⟩),string c,string s,int i64 D] a fun e n=>rT b x S e n):=fun c a k=>P i G m Z hd lo hi u r st c a (K.o.Zbj k) (j.Zbj k);clear j e1 O P;go_upto_region 34 with (go_at_call 21;refine Xx ag.o ?_;rintro e w3 ⟨L,h3,rfl,X,l3⟩)
 have H:Xq _:=X.Zbw;have ai:Xq (iW w3 b y.heap.size x w S 19 A C D s t):=l.o.Zbj X.Zbw;have af:Xq (cW w3 h3.ao 6 lZ L):=aD.srcG (f:=lZ) X.ZbH (fun _=>rfl);have az:Xq (L.length<=h3.cap):=by
  rcases X.ZbH.Zbu with ⟨-,O,-⟩ | ⟨g,an,-,-,e3,-⟩
  ·have O:L.length=0:=O;show L.length<=_;omega
  ·exact e3
 clear z B o2 o3 o4 o5 E Y c1 z1 d1 z2 d2 X;obtain⟨z,B,o2,o3,o4,o5,E⟩:=dG ai.o.o;obtain⟨am,ax⟩:=h3;by_cases hL:L.length=0
 ·rw[hL];go_wp2;go_ret;exact⟨rfl,_,_,_,_,(K.o.Zbj H.o).more,fun _ _ _=>rfl⟩
 ·have ap:((L.length:Int)==0)=false:=X6.2 (by omega);have J:Xq (∀a,Calls prog 11 #[int i64 C,int i64 L.length] a fun e n=>e=returned (int i64 (fH C L.length:Nat))/\n=a):=fun a=>fS C L.length a hC ⟨by omega,by omega⟩;have T:=iw C L.length (by omega);obtain⟨k,Hk⟩:=aP (fH C L.length);rw[Hk.o]at J T;have a0:(k:Int)<L.length:=by omega
  obtain⟨g0,eg,aS,hc⟩:=af.o k _ (Xv T);replace eg:am=some ⟨g0,0,none⟩:=eg;subst eg;have r0:=hc 0 _ rfl;rw[YM]at r0;clear hc;generalize L[k].Zbz=c at *;have ac:Xq (∀a,aa [] w3 a->Calls prog 22 #[pointer (some ⟨b,0,none⟩),pointer (some ⟨G,0,none⟩),pointer (some ⟨m,0,none⟩),string c,string s,int i64 D] a fun e n=>rT b x S e n):=fun a k=>ad.o c a (H.o.trans k);go_upto_region 37 with (go_at_call 11;refine Xx (J.o _) ?_;rintro q w4 ⟨rfl,U⟩;rw[U];clear U)
  go_region_with (go_at_call 22;refine(ac.o _ (by exact bH.drew)).mono ?_;rintro e w9 ⟨rfl,q9⟩)
  all_goals
   go_wp2;go_ret;exact⟨rfl,q9⟩
theorem yW.wrote(h:yW H (some T) I)(s:Xr):yW (H.setCell ⟨T,y,none⟩ (string s)) (some T) (I.set y s):=by
 refine⟨⟨(fun e=>by cases e),fun e=>?_⟩,fun q e=>?_⟩
 ·have:I=[]:=Zan.1 (by rw[<-Yq (i:=y) (a:=s),e];rfl);exact absurd (h.nil.2 this) (by simp)
 ·cases e
  rw[ae (h.Zbx T rfl),Yh,IT]
theorem Tp(o:aD H v (aE I))(a:v.ao=some ⟨T,0,none⟩)(s:Xr):aD (H.setCell ⟨T,y,none⟩ (string s)) v (aE (I.set y s)):=by
 have:=o.putAt a y (string s);have e:(⟨(aE I).e,(aE I).size,(aE I).n,(aE I).xs.set y (string s)⟩:eD)=aE (I.set y s):=by
  unfold aE;rw[IT,Yq]
 rw[e]at this;exact this
theorem dj.wrote{c:Xs}{a:List Tx}(h:dj H T d k t a y)(u:a[i]?=some (M,v,I))(F:c.length=I.length)(G:qq D (gC (gC d (12,i) (Oh M c)) (13,i) (de v (aE c)))):∃x B w o,dj D T x B w o (y+1)/\∀j g,j=10∨(14<=j/\j<=16)->x (j,g)=d (j,g):=by
 have f:=(XL.1 u).1;have E:oq (a.set i (M,v,c))=oq a:=by
  have e:(a.set i (M,v,c)).flatMap WD=a.flatMap WD:=by
   have C:(a.set i (M,v,c)).map WD=a.map WD:=by
    rw[Zm];apply YR;intro j;rw[Yv];by_cases z:i=j
    ·subst z;rw[XA rfl,Yi,u];simp only[List.length_map,f,if_true,Option.map_some,WD,F]
    ·rw[Xz z]
   rw[Zax,Zax,C]
  unfold oq lu;rw[e,Yq]
 have m:=(h.m.retv G k.tv (by rw[Bx (by decide) (by decide),Bx (by decide) (by decide)];exact h.m.w0) (fun j g _ b=>by rw[Bx (by decide) b,Bx (by decide) b])).more;refine⟨_,_,t,a.set i (M,v,c),⟨m,h.q,⟨by rw[Yq];exact h.t.e,by rw[aA _ _ (bJ (by decide)),aA _ _ (bJ (by decide)),E];exact h.t.r,fun j p s A b=>?_,by rw[Yq];have:=h.t.n;omega⟩⟩,fun j g b=>by rw[aA _ _ (bJ (by omega)),aA _ _ (bJ (by omega))]⟩;rw[Yv]at b;rw[aA _ _ (bJ (by decide))];by_cases e:i=j
 ·subst e;rw[XA rfl,XA f]at b;cases b
  obtain⟨-,-,J⟩:=h.t.l i M v I u;rw[b9,b9];exact⟨rfl,rfl,by omega⟩
 ·rw[Xz e]at b;rw[aA _ _ (xG (Ne.symm e)),aA _ _ (xG (Ne.symm e)),aA _ _ (bJ (by decide))];exact h.t.l j p s A b
theorem VK(f:List Tx)(A C D:Int)(s t:Xr)(R:World)(h:dj R b x w N f S)(hN:S<=1073741824)(hA:tP A)(hC:tP C) :
  Calls prog 10 #[pointer (some ⟨b,0,none⟩),agg #[int i64 18,int i64 A,int i64 C,int i64 D,string s,string t]] R fun e w'=>rT b x S e w':=by
 obtain⟨W,HW⟩:=aP (R.alloc (.cells #[int i64 18,int i64 A,int i64 C,int i64 D,string s,string t] 28));obtain⟨-,hB,be,a3⟩:=h.m.boxed 18 A C D s t W HW.o;have p:=h.Zbj a3;obtain⟨o0,o1,o2,o3,o4,o5,Q⟩:=dG hB;have bz:=ah p.m.Zbx;have d:=p.c16;by_cases hL:f.length=0
 ·have HF:Xq (dj W b x w N f S):=p;rw[hL]at d;clear h p hB;go_enter func10,ntmps10;go_upto_region 1 with fail
  rw[HW.o];go_wp2;go_ret;exact⟨rfl,_,_,_,_,HF.o.more,fun _ _ _=>rfl⟩
 ·have bd:=h.t.n;have X:Xq (∀J,Calls prog 11 #[int i64 A,int i64 f.length] J fun e w'=>e=returned (int i64 (fH A f.length:Nat))/\w'=J):=fun J=>fS A f.length J hA ⟨by omega,by omega⟩;have av:=iw A f.length (by omega);obtain⟨k,Hk⟩:=aP (fH A f.length);rw[Hk.o]at X av;have HM:Xq (dj W b x w N f S):=p;obtain⟨bo,F,L,M,hk,⟨I,O,E,K⟩,hX,hO,bk⟩:=p.at_ av;obtain⟨c,j,-⟩:=p.t.l k bo F L hk;rw[I]at d;have bj:(k:Int)<f.length:=by omega
  have a7:(0:Int)<f.length:=by omega
  have a0:Xq _:=hk;have T:Xq _:=c;have az:Xq _:=j;by_cases B:L.length=0
  ·rw[B]at E;clear h p hB hk c j I hX hO;go_enter func10,ntmps10;(go_upto_region 1 with fail);rw[HW.o];(go_upto_region 48 with fail);go_quiet ((go_at_call 11;exact XW (X.o _)));have HF:Xq (dj (W.drewN nq) b x w N f S):=HM.o.Zbj (bH.drewN nq);go_wp2;go_ret;exact⟨rfl,_,_,_,_,HF.o.more,fun _ _ _=>rfl⟩
  ·have ap:Xq (∀J,Calls prog 11 #[int i64 C,int i64 L.length] J fun e w'=>e=returned (int i64 (fH C L.length:Nat))/\w'=J):=fun J=>fS C L.length J hC ⟨by omega,by omega⟩;have af:=iw C L.length (by omega);obtain⟨i,Hi⟩:=aP (fH C L.length);rw[Hi.o]at ap af;obtain⟨a,rfl⟩:∃a,bo=some a:=by
    cases bo with
    | none=>rw[hX.nil.1 rfl]at B;exact absurd rfl B
    | some a=>exact⟨a,rfl⟩
   obtain⟨y,H⟩:∃y,F.ao=some ⟨y,0,none⟩:=by
    rcases hO.Zbu with ⟨-,e2,-⟩ | ⟨g,a1,e1,-⟩
    ·exact absurd e2 B
    ·exact⟨g,e1⟩
   have G:Xq _:=H;have P:a≠R.heap.size:=by
    intro e;have:=(Oh (some a) L).lt R (by have:=h.m.sep.all (12,k);rw[c]at this;exact this) a (XH.2 rfl);omega
   have ax:y≠a:=by
    intro e;exact p.m.sep.far (13,k) (12,k) (bJ (by decide)) y (by rw[j];show y∈F.Zbx.toList;unfold Hd.Zbx;rw[H];exact XH.2 rfl) (by rw[c,e];exact XH.2 rfl)
   replace E:W.cell? ⟨M,k*2,none⟩=some (slice (some ⟨a,0,none⟩) L.length L.length):=E;rw[H]at K;have bg:(i:Int)<L.length:=(by omega);have bf:(0:Int)<L.length:=(by omega);have an:Xq _:=P;have ag:Xq (M≠a):=by
    intro e;exact p.m.sep.far (11,0) (12,k) (bJ (by decide)) M (by rw[p.t.r];show M∈N.Zbx.toList;unfold Hd.Zbx;rw[I];exact XH.2 rfl) (by rw[c,e];exact XH.2 rfl)
   have aS:Xq (b≠a):=by
    intro e;exact p.m.sep.far (0,0) (12,k) (bJ (by decide)) b (by rw[p.m.w0];exact XH.2 rfl) (by rw[c,e];exact XH.2 rfl)
   have u:Xq (∀v,aa [a] W v->(v.cell? ⟨R.heap.size,2,none⟩=some (int i64 C)/\v.cell? ⟨R.heap.size,4,none⟩=some (string s)/\R.heap.size<v.heap.size)/\(v.cell? ⟨b,16,none⟩=some (slice (some ⟨M,0,none⟩) f.length N.cap)/\b<v.heap.size)/\v.cell? ⟨M,k*2,none⟩=some (slice (some ⟨a,0,none⟩) L.length L.length)/\v.cell? ⟨M,k*2+1,none⟩=some (slice (some ⟨y,0,none⟩) L.length F.cap)/\M<v.heap.size):=fun v kw=>by
    have q:∀g i,g<W.heap.size->g≠a->v.cell? ⟨g,i,none⟩=W.cell? ⟨g,i,none⟩:=fun g i hg hn=>XJ (kw.block g hg (by simp;exact hn));have z:=kw.size;exact⟨⟨by rw[q _ _ Q (Ne.symm an.o)];exact o2,by rw[q _ _ Q (Ne.symm an.o)];exact o4,by omega⟩,⟨by rw[q _ _ bz aS.o];exact d,by omega⟩,by rw[q _ _ O ag.o];exact E,by rw[q _ _ O ag.o];exact K,by omega⟩
   have a6:Xq (L.length<=F.cap):=by
    rcases hO.Zbu with ⟨-,e2,-⟩ | ⟨g,a1,-,-,e3,-⟩
    ·exact absurd e2 B
    ·exact e3
   clear h p hB hk c j I hX hO P H ax;go_enter func10,ntmps10;(go_upto_region 1 with fail);rw[HW.o];(go_upto_region 48 with fail);go_quiet ((go_at_call 11;exact XW (X.o _)));(go_upto_region 50 with fail);obtain⟨W2,aq⟩:=aP (W.drewN nq);rw[aq.o];have ai:Xq (aa [] W W2):=(by show aa _ _ _;rw[<-aq.o];exact bH.drewN nq);clear o0 o1 o2 o3 o4 o5 Q d bz E K O;obtain⟨⟨o2,o4,Q⟩,⟨d,bz⟩,E,K,O⟩:=u.o W2 (ai.o.mono (by simp));go_quiet ((go_at_call 11;exact XW (ap.o _)));(go_upto_region 51 with fail);obtain⟨W3,ar⟩:=aP (W2.drewN nq);rw[ar.o];have U:Xq (aa [] W W3):=(by show aa _ _ _;rw[<-ar.o];exact ai.o.drewN nq);have am:Xq (dj W3 b x w N f S):=HM.o.Zbj U.o;have ac:Xq (yW W3 (some a) L):=(by show yW _ _ _;have:=am.o.m.sep.all (12,k);rw[T.o]at this;exact this);clear o2 o4 Q d bz E K O;obtain⟨⟨o2,o4,Q⟩,⟨d,bz⟩,E,K,O⟩:=u.o W3 (U.o.mono (by simp));have d0:W3.cell? ⟨a,i,none⟩=some (string L[i]):=by rw[ab (ac.o.Zbx a rfl)];simp[dc,af]
   have df:=zcW (ac.o.Zbx a rfl) i;generalize L[i]=a4 at *;go_region
   all_goals
    obtain⟨W4,Y⟩:=aP ((W3.setCell ⟨a,i,none⟩ (string s)).drew);rw[Y.o];have al:Xq (aa [a] W3 W4):=(by show aa _ _ _;rw[<-Y.o];exact((aa.refl [a] _).sl1 _).drew);have S4:Xq (qq W4 (gC x (12,k) (Oh (some a) (L.set i s)))):=by
     show qq _ _;refine am.o.m.sep.put _ _ (by rw[T.o];exact al.o) ?_ (fun q hq=>XQ (by rw[T.o];exact hq));rw[<-Y.o];exact(Oh _ _).ok [] _ _ (ac.o.wrote s) bH.drew (by simp)
    have ad:Xq (gC x (12,k) (Oh (some a) (L.set i s)) (13,k)=de F (aE L)):=cm (by rw[aA _ _ (bJ (by decide))];exact az.o);have V:Xq (aD W4 F (aE L)):=(by show aD _ _ _;have:=S4.o.all (13,k);rw[ad.o]at this;exact this);clear d0 df o2 o4 Q d bz E K O;obtain⟨⟨o2,o4,Q⟩,⟨d,bz⟩,E,K,O⟩:=u.o W4 ((U.o.mono (by simp)).trans al.o);have d0:W4.cell? ⟨y,i,none⟩=some (string L[i]):=V.o.cell G.o i _ (by simp[aE,dc,af]);have df:=Hw V.o G.o i;generalize L[i]=a5 at *;(go_upto_region 52 with fail);go_region
    all_goals
     obtain⟨W5,Z⟩:=aP ((W4.setCell ⟨y,i,none⟩ (string s)).drew);rw[Z.o];have aT:Xq (aa [y] W4 W5):=(by show aa _ _ _;rw[<-Z.o];exact((aa.refl [y] _).sl1 _).drew);have S5:Xq (qq W5 (gC (gC x (12,k) (Oh (some a) (L.set i s))) (13,k) (de F (aE (L.set i s))))):=by
      show qq _ _;have a2:F.Zbx.toList=[y]:=(by unfold Hd.Zbx;rw[G.o];rfl);refine S4.o.put _ _ (by rw[ad.o];show aa F.Zbx.toList _ _;rw[a2];exact aT.o) ?_ (fun q hq=>XQ (by rw[ad.o];exact hq));rw[<-Z.o];exact(de _ _).ok [] _ _ (Tp V.o G.o s) bH.drew (by simp)
     go_wp2;go_ret;exact⟨rfl,HM.o.wrote a0.o Yq S5.o⟩
theorem pX{P:Program}{l:Array Oper}{f:List Oper}{o:Oper}{a:Act}{Q:Exit->Act->World->Prop}(L:o.guard=none)(s x:Operand)(t:TypeId)(y:o.op=Op.call { callee:=Callee.builtin Builtin.append,args:=#[s,x],argTypes:=#[t,t] })(i:TypeInfo)(z:Value)(d:Nat)(h:Hd)(r:eD)(b:List Value)(B:P.underlying t=some (.slice r.e))(C:P.info? r.e=some i)(D:i.zero=some z)(E:i.size=r.size)(F:i.bytes=d)(G:z.cells.size=r.size)(H:0<r.size)(O:a.eval s=slice h.ao r.n h.cap)(g:aD c h r)(V:r.n+1<=140737488355328)(J:(r.n+1)*d<=140737488355328)(R:a.eval x=slice (some ⟨c.heap.size,0,none⟩) 1 1)(W:b.length=r.size)(q:∀u∈b,u.oneCell'=true)(I:∀p m,aD m p ⟨r.e,r.size,r.n+1,r.xs++b⟩->bL c m h p->wpList P l Q f (a.put o.dst (slice p.ao (r.n+1) p.cap)) m) :
  wpList P l Q (o :: f) a (c.alloc (.cells b.toArray r.e)):=by
 have A:aa [] c (c.alloc (.cells b.toArray r.e)):=bH.alloc _;have N:(c.alloc (.cells b.toArray r.e)).heap[c.heap.size]?=some (.cells b.toArray r.e):=XD _ _;obtain⟨w,m,k,S,T⟩:=sI (P:=P) (c.alloc (.cells b.toArray r.e)) t o.type i z d h r B C D E F G H (g.Zbj A) (some ⟨c.heap.size,0,none⟩) 1 1 b (by omega) (fun e=>by cases e) (fun U e j u M=>by cases e;rw[bE,ab N];simpa using M) q (by unfold maxLen;omega) J;refine wpList_plain L fun K v=>?_;unfold Oper.wp;simp[execOp,y,resolve,invoke,builtin,O,R,k,Result.andThen];exact v _ _ (I w m S ((bL.Zbj A).trans T))
def qL(d:Int)(o:oU):oU:=if o.k=19 then { o with d:=d } else o
theorem Sx(l:List oU)(w:World)(hl:l.length*64<=140737488351232)(hi:oj w z0 l) :
  Calls prog 4 #[slice z0 l.length S,int i64 L] w fun e w'=>∃j,e=returned (slice j.ao l.length j.cap)/\iG w w' j (jo (l.map (qL L))):=by
 have HI:Xq (oj w z0 l):=hi;obtain⟨iX,K,r,u,v⟩:=XV RQ;have P:Xq (iG w w ⟨none,0⟩ (jo [])):=⟨XE _ _ _ _,(by intro k hk;cases hk),aa.refl _ _⟩;clear hi;go_enter func4,ntmps4;go_wp2
 go_loopg [5,6] l.length (fun g lv iv wr=>∃(k:Nat) (j:Hd) (d:List oU),k<=l.length/\g=l.length-k/\lv=slice j.ao d.length j.cap/\iv=int i64 k/\d.length=k/\Xq (d=(l.take k).map (qL L))/\Xq (iG w wr j (jo d)))
 ·exact⟨0,⟨none,0⟩,[],by omega,rfl,rfl,rfl,rfl,rfl,P⟩
 obtain⟨k,j,d,hk,hg,rfl,rfl,H,O,M⟩:=hrel;rcases kn k l.length with ⟨E,ac⟩ | ⟨E,-⟩
 ·obtain⟨b,af,rfl,hb,D⟩:=(oj.Zbj HI.o M.o.Zbw) k _ (nP l k E);have p:Xq (d++[qL L (mE l k)]=(l.take (k+1)).map (qL L)):=by
   show _=_;rw[Zap,nP l k E,Yj,<-O.o];rfl
  have c0:=D 0 _ rfl;have c1:=D 1 _ rfl;have c2:=D 2 _ rfl;have c3:=D 3 _ rfl;have c4:=D 4 _ rfl;have c5:=D 5 _ rfl;rw[YM]at c0;generalize mE l k=o at *;clear D;have C:(jo d).n=d.length:=rfl;have F:Xq ((jo d).n=d.length):=C;have I:Xq ((jo d).n+1<=140737488355328):=by show(jo d).n+1<=_;rw[C];omega
  have J:Xq (((jo d).n+1)*64<=140737488355328):=by show((jo d).n+1)*64<=_;rw[C];omega
  obtain⟨X,N⟩:=aP (wr.alloc (.cells #[int i64 o.k,int i64 o.a,int i64 o.c,int i64 o.d,string o.s,string o.t] 28));have G:Xq _:=dx N.o;have q:Xq _:=dC N.o;cases A:(o.k==19)
  ·have y:Xq (qL L o=o):=(by show _=_;unfold qL;rw[Xz (fun e=>by rw[e]at A;cases A)]);rw[y.o]at p;obtain⟨U,V,W,Z,b4,b5,z⟩:=dG q.o;have f:Xq _:=M.o.Zbj G.o;have B:=f.o.ZbH;(go_upto_region 6 with fail);rw[N.o];go_wp2_with (at_builtin;refine pX X rfl (.tmp 23) (.tmp 25) 22 rfl iX (agg #[int i64 0,int i64 0,int i64 0,int i64 0,string ⟨#[]⟩,string ⟨#[]⟩]) 64 j (jo d) (Qr o) underlying22 K r u v rfl (show 0<6 by omega) (by rw[F.o];simp[Act.eval]) B I.o J.o (by simp[Act.eval]) rfl (EV o) ?_;intro h5 w5 i m;rw[jo,fT]at i;have x:Xq _:=f.o.Zbt m i;clear i m);go_roundg (l.length-(k+1))
   ·exact⟨k+1,h5,d++[o],by omega,rfl,by rw[XC,H];rfl,by go_num,by rw[XC];show _+1=_;omega,p,x⟩
   omega
  ·have y:Xq (qL L o={ o with d:=L }):=(by show _=_;unfold qL;rw[XA (ZR A)]);rw[y.o]at p;obtain⟨Y,Q⟩:=aP (X.setCell ⟨wr.heap.size,3,none⟩ (int i64 L));have T:Xq (aa [] wr Y):=by show aa _ _ _;rw[<-Q.o];exact G.o.sr1 (Xy _) _
   have R:Xq (Y.heap[wr.heap.size]?=some (.cells #[int i64 o.k,int i64 o.a,int i64 o.c,int i64 L,string o.s,string o.t] 28)):=cm (by rw[<-Q.o,ae q.o 3 _];rfl);obtain⟨U,V,W,Z,b4,b5,z⟩:=dG q.o;have bf:=zcW q.o 3;have f:Xq _:=M.o.Zbj T.o;have B:=f.o.ZbH;(go_upto_region 6 with fail);rw[N.o];(go_upto_region 8 with fail);rw[Q.o];clear U V W Z b4 b5 z bf;obtain⟨U,V,W,Z,b4,b5,z⟩:=dG R.o;go_wp2_with (at_builtin;refine pX Y rfl (.tmp 23) (.tmp 25) 22 rfl iX (agg #[int i64 0,int i64 0,int i64 0,int i64 0,string ⟨#[]⟩,string ⟨#[]⟩]) 64 j (jo d) (Qr { o with d:=L }) underlying22 K r u v rfl (show 0<6 by omega) (by rw[F.o];simp[Act.eval]) B I.o J.o (by simp[Act.eval]) rfl (EV _) ?_;intro h5 w5 i m;rw[jo,fT]at i;have x:Xq _:=f.o.Zbt m i;clear i m);go_roundg (l.length-(k+1))
   ·exact⟨k+1,h5,d++[(⟨o.k,o.a,o.c,L,o.s,o.t⟩:oU)],by omega,rfl,by rw[XC,H];rfl,by go_num,by rw[XC];show _+1=_;omega,p,x⟩
   omega
 ·have e:k=l.length:=by omega
  subst e;have ad:¬(l.length:Int)<l.length:=by omega
  rw[Yl]at O;go_wp2;go_ret;exact⟨j,rfl,by rw[<-O.o];exact M.o⟩
end Go.Proofs.YtpdholcaobgofaaGreat
