import Derived.Test.YtnbhnocdhbcbcaaGreatU23
import Derived.Test.YtnbhnocdhbcbcaaGreatU38
namespace Go.Proofs.YtnbhnocdhbcbcaaGreat
open Go.RowKit Tryz
open Value IntKind Ending
set_option maxHeartbeats 0
variable{d k:World}{l:Nat}(n:Nat)(b:Fs)(T H:Nat)(w:List St)(v:Nat->Hd)(f:Nat)(x:Xs)(y:Int)(S:World)
theorem wS(a:ae [] d k):Md [] y d (returned (tuple #[slice none 0 0,int i64 y])) k:=⟨none,rfl,⟨⟨fun _=>rfl,fun _=>rfl⟩,fun b e=>by cases e⟩,(fun b e=>by cases e),a⟩
theorem Q0(c:Nat->Nat)(b:Nat->Xs)(a:List jg)(q:uP)(k:Nat)(h:k<a.length):oq c b (a.drop k) q=if 64<(xg c b q a[k]).W.length then([],3) else oq c b (a.drop (k+1)) (xg c b q a[k]):=by
 rw[UB h,oq]
theorem zD{H c:Nat->Hd}{b:Hd}{r:ew}(t:aw l d H k c)(o:aB d b r)(h:∀x,b.Yv=some x->x≠l/\¬gF H x):aB k b r/\∀x,b.Yv=some x->x≠l/\¬gF c x :=
 ⟨o.Ym (fun x a=>t.1.block x (o.lt a) (by rintro (e | e);exact(h x a).1 e;exact(h x a).2 e)),fun x a=>⟨(h x a).1,t.fresh x (o.lt a) (h x a).2⟩⟩
def Fm(l:List St)(n:Nat)(s:St)(pv:Bool)(w:World)(e:Ending)(w':World):Prop:=if pv=true then Md (oq (ij l) (fP l) (bW l n s).1 ⟨[],[],[]⟩).1 (oq (ij l) (fP l) (bW l n s).1 ⟨[],[],[]⟩).2 w e w' else Md [] 9 w e w'
set_option maxRecDepth 100000
theorem Gv(L:List Rw)(g:World)(h:kp g n T w v f L)(ok:j6 w)(hn:H<w.length)(A:vQ w[H])(V:lg L H=true->((bW w H w[H]).2.1==0)=true/\∀i (hi:i<(bW w H w[H]).1.length),(((bW w H w[H]).1[i].Yw==3)=false->(bW w H w[H]).1[i].Yd<w.length)/\(((bW w H w[H]).1[i].Yw==3)=true->(bW w H w[H]).1[i].Yd<i)) :
  Calls prog 69 #[pointer (some ⟨n,T,none⟩),int i64 H] g fun e w'=>Fm w H w[H] (lg L H) g e w':=by
 have a3:=h.recd.lt;have F:Xr _:=BN n T H w v f L g h;have u:Xr _:=Ay n T H w v g h.recd hn ok A;have a0:=(N0 w H ok hn A).len;have HR:Xr _:=h.recd;unfold Fm;generalize bW w H w[H]=PF at *;obtain⟨a,Y,Z⟩:=PF;simp only at u a0 V ⊢;clear h A;generalize lg L H=pv at *;cases pv
 ·simp only[Bool.false_eq_true,if_false];clear V u HR;go_enter func69,ntmps69;go_wp2_with (go_at_call 100;refine Ug F.o ?_;rintro e w1 ⟨rfl,c⟩;rw[c];clear c);go_ret2;exact wS 9 (ae.refl _ _)
 ·simp only[if_true];obtain⟨hz,S⟩:=V rfl;have ai:Xr _:=S;have ba:(Y != 0)=false:=by simp[bne,hz]
  clear V S;go_enter func69,ntmps69;go_upto_region 4 with (first | (go_at_call 100;refine Ug F.o ?_;rintro e w1 ⟨rfl,c⟩;rw[c];clear c) | (go_at_call 101;refine Ug u.o ?_;rintro e w3 ⟨C,rfl,y,a2,k3⟩;unfold iz))
  obtain⟨d,b⟩:∃d,d=w3.alloc (.cells #[int i64 Y,string Z.YB,int i64 Z.YC,int i64 Z.YD] 165):=⟨_,rfl⟩
  have k4:ae [] g d:=by rw[b];exact k3.alloc _
  have B9:d.heap[w3.heap.size]?=some (.cells (Dz (Y,Z)) 165):=by rw[b];exact Ui _ _
  have o:aB d C (gJ a):=by rw[b];exact y.Ym (fun x z=>(bM.alloc _).block x (y.lt z) (by simp))
  rw[<-b];clear b y k3;have f0:d.cell? ⟨w3.heap.size,0,none⟩=some (int i64 Y):=by rw[ah B9];rfl
  obtain⟨AO,D⟩:=bm (C.ao);rw[D.o];obtain⟨X,HX⟩:=bm (d.alloc (.cells #[pointer (some ⟨n,T,none⟩),slice none 0 0,slice none 0 0,slice none 0 0] 171));have I:Xr _:=fg HX.o;have ar:Xr (lY g X d.heap.size n T ⟨[],[],[]⟩ lB):=by
   refine⟨⟨by rw[<-HX.o];exact Ui _ _,?_,fun i j _=>Us rfl,fun i e=>by simp[lB,Hd.Yv]at e⟩,k4.trans I.o,k4.size,fun x z=>?_⟩
   ·intro i
    match i with
    | 0=>exact Uj _ _ _ _
    | 1=>exact Uj _ _ _ _
    | 2=>exact Uj _ _ _ _
    | m+3=>exact Uj _ _ _ _
   ·obtain⟨i,e⟩:=z;simp[lB,Hd.Yv]at e
  have an:Xr (aB X C (gJ a)):=o.Ym (fun x z=>I.o.block x (o.lt z) (by simp));have af:Xr (∀x,C.Yv=some x->x≠d.heap.size/\¬gF lB x):=fun x z=>⟨by have:=o.lt z;omega,by rintro ⟨i,e⟩;simp[lB,Hd.Yv]at e⟩
  go_upto_region 7 with fail
  rw[HX.o];clear f0 B9 o k4;generalize d.heap.size=B at *;go_wp2
  go_loopg [9] a.length (fun gk iv wr=>∃(k:Nat) (q:uP) (J:Nat->Hd),k<=a.length/\gk=a.length-k/\iv=int i64 k/\Xr (oq (ij w) (fP w) (a.drop k) q=oq (ij w) (fP w) a ⟨[],[],[]⟩)/\Xr (Q7 q k)/\q.W.length<=64/\Xr (lY g wr B n T q J)/\Xr (aB wr C (gJ a))/\Xr (∀x,C.Yv=some x->x≠B/\¬gF J x))
  ·exact⟨0,⟨[],[],[]⟩,lB,by omega,rfl,rfl,rfl,QZ,by show 0<=64;omega,ar,an,af⟩
  obtain⟨k,q,J,hk,a4,rfl,HE,HG,r,E,HO,HF⟩:=hrel;rcases kn k a.length with ⟨p,a5⟩ | ⟨p,a7⟩
  ·obtain⟨gp,ep,a1,aS,d0,d1,d2,d3,d4⟩:=HO.o.step k p;obtain rfl:AO=some ⟨gp,0,none⟩:=D.o.symm.trans ep;clear ep;obtain⟨K,M⟩:=ai.o k p;have ax:Xr _:=(Mb g wr B n T k a[k] w v q J HR.o ok E.o HG.o r (by omega) K M);have G:Xr _:=Q0 (ij w) (fP w) a q k p;have ag:Xr (Q7 (xg (ij w) (fP w) q a[k]) (k+1)):=HG.o.step a[k];have a6:(xg (ij w) (fP w) q a[k]).W.length<=129:=Jv a[k] r;clear K M;generalize xg (ij w) (fP w) q a[k]=U at *;generalize a[k]=st at *;(go_upto_region 11 with (go_at_call 102;refine Ug ax.o ?_;rintro e w2 ⟨rfl,H2,P,R⟩));have s:Xr _:=P;obtain⟨Q,O⟩:=zD R HO.o HF.o;have al:Xr _:=Q;have ad:Xr _:=O;clear P R Q O d0 d1 d2 d3 d4 HO HF E;obtain⟨-,p1,-,-⟩:=s.o.cells;by_cases N:64<U.W.length
   ·have aT:(U.W.length:Int) > 64:=(by omega);have t:Xr (oq (ij w) (fP w) a ⟨[],[],[]⟩=([],3)):=cM (by rw[<-HE.o,G.o,Uf N]);have l:Xr _:=s.o.Yu;go_wp2;go_ret2;rw[t.o];exact wS 3 l.o
   ·have aT:¬(U.W.length:Int) > 64:=(by omega);have ac:Xr (oq (ij w) (fP w) (a.drop (k+1)) U=oq (ij w) (fP w) a ⟨[],[],[]⟩):=cM (by rw[<-HE.o,G.o,Ud N]);go_wp2;go_roundg (a.length-(k+1))
    ·exact⟨k+1,U,H2,by omega,rfl,by go_num,ac,ag,by omega,s,al,ad⟩
    omega
  ·have t:Xr (oq (ij w) (fP w) a ⟨[],[],[]⟩=(q.W,0)):=(by show _=_;rw[<-HE.o,Vm (by omega),oq]);obtain⟨-,p1,-,-⟩:=E.o.cells;have ap:Xr _:=(ET (J 0) q.W wr (E.o.bag.YF 0) (by omega));have l:Xr _:=E.o.Yu;go_wp2_with (go_at_call 99;refine Ug ap.o ?_;rintro e w7 ⟨bo,rfl,x7,n7,k7⟩);have az:Xr (Md q.W 0 g (returned (tuple #[slice (wa bo) q.W.length q.W.length,int i64 0])) w7):=⟨bo,rfl,x7,(fun q e=>Un l.o.size (n7 q e)),l.o.trans k7⟩;clear x7 n7 k7;generalize wa bo=ra at *;go_ret2;rw[t.o];exact az.o
theorem Ua:O8 [] y S (returned (tuple #[slice none 0 0,int i64 y])) S:=⟨⟨none,0⟩,rfl,Ja S [] rfl⟩
set_option maxRecDepth 512
theorem AT(g:(y != 0)=true)(w:World)(c:Calls prog 62 #[pointer (some ⟨f,0,none⟩),string x] w fun e b=>e=returned (tuple #[int i64 0,int i64 y])/\b=w) :
  Calls prog 46 #[pointer (some ⟨f,0,none⟩),string x] w fun e b=>O8 [] y w e b:=by
 have d:Xr _:=c;clear c;go_enter func46,ntmps46;go_wp2_with (go_at_call 62;refine Ug d.o ?_;rintro e i ⟨rfl,a⟩;rw[a];clear a);go_ret2;exact Ua y w
structure Mt(T:List Tk)(S:List Sm)(P:List ci):Prop where
 pos:0<P.length
 le:P.length<=100000000
 nd:Fj P
 ok:xn P P.length
 lab:∀i,i<P.length->(aQ P i).ref≠-2->∃j:Nat,(aQ P i).ref=(j:Int)/\j<S.length/\(aq S j).a<T.length
def xl(T:List Tk)(S:List Sm)(P:List ci)(sd:Bool)(w:World)(e:Ending)(w':World):Prop:=if sd=false then O8 [] 9 w e w' else if 64<(eZ P (il T S) (P.length-1)).length then O8 [] 3 w e w' else O8 (eZ P (il T S) (P.length-1)) 0 w e w'
set_option maxRecDepth 100000
theorem LH(l:List Tk)(L:Xu)(cT:Nat)(S:List Sm)(J:Xu)(cS:Nat)(x0 x1:Value)(t:List (jW×Hd))(I:Xu)(Y:Nat)(N:List iH)(Q:Xu)(cR:Nat)(w:World)(hD:ge w H l L cT S J cS)(D:O9 w T H x0 x1 t I Y N Q cR)(R:f<t.length)(an:f<N.length)(u:cG N f=true->Mt l S (g9 t f).1.st)(hA:Calls prog 62 #[pointer (some ⟨T,0,none⟩),string x] w fun e A=>e=returned (tuple #[int i64 f,int i64 0])/\A=w) :
  Calls prog 46 #[pointer (some ⟨T,0,none⟩),string x] w fun e A=>xl l S (g9 t f).1.st (cG N f) w e A:=by
 have HA:Xr _:=hA;have B:Xr _:=AQ T H f x0 x1 t I Y N Q cR w D an;obtain⟨r,ai,c,M⟩:=D.p f _ (un t f R);have hq:=D.q _ (Vq (un t f R));generalize g9 t f=pa at *;obtain⟨⟨P,v,V,W,U⟩,y⟩:=pa;simp only at u hq ⊢;have c0:w.cell? ⟨r,f*5,none⟩=some (slice y.ao P.length y.cap):=M 0 _ rfl;have c1:w.cell? ⟨r,f*5+1,none⟩=some (int i64 v):=M 1 _ rfl;have c2:w.cell? ⟨r,f*5+2,none⟩=some (string V):=M 2 _ rfl;have c3:w.cell? ⟨r,f*5+3,none⟩=some (int i64 W):=M 3 _ rfl;have c4:w.cell? ⟨r,f*5+4,none⟩=some (int i64 U):=M 4 _ rfl;have d2:w.cell? ⟨T,2,none⟩=some (pointer (some ⟨H,0,none⟩)):=by rw[ah D.d];rfl
 have d3:w.cell? ⟨T,3,none⟩=some (slice I t.length Y):=by rw[ah D.d];rfl
 rw[ai]at d3;have C:=aj D.d;have aS:(f:Int)<t.length:=by omega
 have HD:Xr _:=hD;have HQ:Xr _:=hq;clear hA hD hq;obtain⟨sd,ag⟩:=bm (cG N f);rw[ag.o]at B u ⊢;cases sd
 ·clear D u M;go_enter func46,ntmps46;go_wp2_with (first | (go_at_call 62;refine Ug HA.o ?_;rintro e X ⟨rfl,a⟩;rw[a];clear a) | (go_at_call 67;refine Ug B.o ?_;rintro e X ⟨rfl,a⟩;rw[a];clear a));go_ret2;unfold xl;rw[Uf rfl];exact Ua 9 w
 ·have K:=u rfl;have az:=K.pos;have ax:=K.le;have s:Xr _:=Oq P (il l S) y.ao y.cap v V W U K.le K.nd K.ok P.length (P.length-1) w (by omega) (by omega) HQ.o;have G:Xr ((eZ P (il l S) (P.length-1)).length<=64->∀b,ae [] w b->Calls prog 71 #[pointer (some ⟨H,0,none⟩),agg #[slice y.ao P.length y.cap,int i64 v,string V,int i64 W,int i64 U],int i64 ((P.length-1:Nat):Int)] b fun e A=>∃h':Hd,e=returned (slice h'.ao (eZ P (il l S) (P.length-1)).length h'.cap)/\ip b A h' (aD (eZ P (il l S) (P.length-1)))):=fun n b kx =>
   Fa P H l L cT S J cS y.ao y.cap v V W U K.le K.nd K.ok (fun i hi hr=>by
    obtain⟨j,e,hj,ha⟩:=K.lab i hi hr;refine⟨j,e,fun wy hy=>?_⟩;have e2:aq S j=S[j]:=by unfold aq;rw[Uc,Ub hj];rfl
    rw[e2]at ha ⊢;exact pj H j l L cT S J cS wy hy hj ha) P.length (P.length-1) b (by omega) (by omega) (cN.Yh HQ.o kx) (HD.o.Yh kx) n
  have ar:(P.length:Int)-1=((P.length-1:Nat):Int):=by omega
  have O:Xr (∀e A,xl l S P true w e A ↔ if 64<(eZ P (il l S) (P.length-1)).length then O8 [] 3 w e A else O8 (eZ P (il l S) (P.length-1)) 0 w e A):=fun e A=>by unfold xl;rw[Ud (by simp)]
  have ac:Xr (∀b,ae [] w b->b.cell? ⟨T,2,none⟩=some (pointer (some ⟨H,0,none⟩))/\b.cell? ⟨T,3,none⟩=some (slice (some ⟨r,0,none⟩) t.length Y)/\T<b.heap.size/\r<b.heap.size/\b.cell? ⟨r,f*5,none⟩=some (slice y.ao P.length y.cap)/\b.cell? ⟨r,f*5+1,none⟩=some (int i64 v)/\b.cell? ⟨r,f*5+2,none⟩=some (string V)/\b.cell? ⟨r,f*5+3,none⟩=some (int i64 W)/\b.cell? ⟨r,f*5+4,none⟩=some (int i64 U)):=fun b k=>by
   have q:∀g i,g<w.heap.size->b.cell? ⟨g,i,none⟩=w.cell? ⟨g,i,none⟩:=fun g i hg=>Uw (k.block g hg (by simp));have z:=k.size;exact⟨by rw[q _ _ C];exact d2,by rw[q _ _ C];exact d3,by omega,by omega,by rw[q _ _ c];exact c0,by rw[q _ _ c];exact c1,by rw[q _ _ c];exact c2,by rw[q _ _ c];exact c3,by rw[q _ _ c];exact c4⟩
  generalize eZ P (il l S) (P.length-1)=Z at *;obtain⟨m,Hm⟩:=bm (P.length-1);rw[Hm.o]at s G ar;clear K u D M;by_cases n:64<Z.length
  ·have E:Xr ((mT Z.length:Nat)=65):=(by show _=_;unfold mT;rw[Uf n]);rw[E.o]at s;go_enter func46,ntmps46;go_wp2_with (first | (go_at_call 62;refine Ug HA.o ?_;rintro e X ⟨rfl,a⟩;rw[a];clear a) | (go_at_call 67;refine Ug B.o ?_;rintro e X ⟨rfl,a⟩;rw[a];clear a) | (go_at_call 70;refine Ug s.o ?_;rintro e w3 ⟨rfl,k3⟩));go_ret2;rw[O.o,Uf n];exact⟨⟨none,0⟩,rfl,(Ja _ [] rfl).base k3⟩
  ·have E:Xr ((mT Z.length:Nat)=Z.length):=(by show _=_;unfold mT;rw[Ud n]);rw[E.o]at s;have ad:Xr _:=(G.o (by omega));clear G;go_enter func46,ntmps46;(go_upto_region 11 with (first | (go_at_call 62;refine Ug HA.o ?_;rintro e X ⟨rfl,a⟩;rw[a];clear a) | (go_at_call 67;refine Ug B.o ?_;rintro e X ⟨rfl,a⟩;rw[a];clear a) | (go_at_call 70;refine Ug s.o ?_;rintro e w3 ⟨rfl,k3⟩)));have F:Xr _:=k3;clear d2 d3 C c c0 c1 c2 c3 c4 k3;obtain⟨d2,d3,C,c,c0,c1,c2,c3,c4⟩:=ac.o w3 F.o;go_region_with (go_at_call 71;refine(ad.o _ (by exact F.o.drew)).mono ?_;rintro e w9 ⟨h9,rfl,x9⟩)
   all_goals
    have af:Xr _:=x9.base F.o.drew;clear x9;obtain⟨al,ap⟩:=h9;go_wp2;go_ret2;rw[O.o,Ud n];exact⟨⟨al,ap⟩,rfl,af.o⟩
def vR(l:List St)(lab:Xs):Xt×Int:=match lx l lab with
 | none=>([],8)
 | some n=>if lg (cU l l.length) n=true then rm l n else([],9)
def Bk(fs:Fs)(st:Option Nat)(lab:Xs):Xt×Int:=match st with
 | none=>([],7)
 | some k=>vR (bP fs k).2.2.Yt lab
theorem Sv{T:List Tk}{z e:Nat}(d:l<=10000)(b:fz T)(c:T.length<=10000)(g:z<=T.length)(n:l<(aa T).length)(a:∀j,j<=l->(aq (aa T) j).a<T.length)(k:(dU T (aa T) l e z).why=0)(m:xn (dU T (aa T) l e z).st (dU T (aa T) l e z).st.length)(s:∀i,i<(dU T (aa T) l e z).st.length->(aQ (dU T (aa T) l e z).st i).ref≠-1):Mt T (aa T) (dU T (aa T) l e z).st:=by
 obtain⟨t,u,v⟩:=sM (T:=T) (S:=aa T) (a:=l) d b c e z g;refine⟨u k,v,(Ac (T:=T) (S:=aa T) (a:=l) d b c e z g).nd,m,fun i f o=>?_⟩;rcases(t i f).Ys with q | ⟨q,-⟩ | ⟨r,⟨p,-⟩,q,-⟩
 ·exact absurd q (s i f)
 ·exact absurd q o
 ·exact⟨r,q,by omega,a r (by omega)⟩
theorem J0(h:Hd)(lo C:Nat)(N:Option Nat)(c:Xs)(w:World)(hm:dM w n b h lo C N)(U:∀k,N=some k->k<b.length/\((gj b k).1==0)=true)(T:b.length<=4)(X:∀j,j<b.length->(ak b j).size<=1024) :
  Calls prog 46 #[pointer (some ⟨n,0,none⟩),string c] w fun e D=>O8 (Bk b N c).1 (Bk b N c).2 w e D:=by
 have hs:=hm.s;cases N with
 | none =>
  obtain⟨p2,p3,p4,r⟩:=hs;exact AT n c 7 (by decide) w (Mz n c _ p2 p3 p4 w r.d)
 | some k =>
  obtain⟨hk,h0⟩:=U k rfl;obtain⟨G,hT,hO⟩:=IQ T X hk h0;obtain⟨ac,aT,cT,aS,cS,v,O,E,B,r⟩:=hs;have P:=r.YA.tell;have H:=aB.srcG (f:=ln) r.s2 (fun _=>rfl);have hl:(aa (bL b k).1).length<=(bL b k).1.length:=rI _ _;have l:=G.r.find P c;have F:=My n c E B.ao B.cap _ _ _ w r.rv.d H (by rw[P.len];omega);show Calls _ _ _ _ fun e D=>O8 (vR (bP b k).2.2.Yt c).1 (vR (bP b k).2.2.Yt c).2 w e D;unfold vR;cases Q:lx (bP b k).2.2.Yt c with
  | none =>
   rw[Q]at l;refine AT n c 8 (by decide) w (F.mono (fun e D q=>?_));obtain⟨M,Z⟩:=q;rw[l]at M;exact⟨M,Z⟩
  | some g =>
   rw[Q]at l;obtain⟨J,hA,-⟩:=Dr Q;have y:=G.r.hel.at_ J;have af:v.length=(aa (bL b k).1).length:=by
    have:=congrArg List.length r.ps;rw[Uy,Uy,VN]at this;exact this
   have hJ:O9 w n ac (slice h.ao b.length h.cap) (bool true) v O.ao O.cap E B.ao B.cap:=⟨r.rv.d,aB.srcG (f:=Pb) r.s1 (fun _=>rfl),r.sq,H⟩;obtain⟨s,m,-⟩:=G.r.get J;obtain⟨V,-⟩:=G.r.rea G.f G.u G.p r.ps r.YA J;have L:=V g J;have I:cG E (av (aa (bL b k).1) g)=true->Mt (bL b k).1 (aa (bL b k).1) (g9 v (av (aa (bL b k).1) g)).1.st/\rm (bP b k).2.2.Yt g=if 64<(eZ (g9 v (av (aa (bL b k).1) g)).1.st (il (bL b k).1 (aa (bL b k).1)) ((g9 v (av (aa (bL b k).1) g)).1.st.length-1)).length then([],3) else(eZ (g9 v (av (aa (bL b k).1) g)).1.st (il (bL b k).1 (aa (bL b k).1)) ((g9 v (av (aa (bL b k).1) g)).1.st.length-1),0):=fun o=>by
    rw[<-L]at o;obtain⟨z,R,ad,hW,W⟩:=G.r.wrote G.f G.u m o;have K:=G.r.pst G.f G.u G.p r.ps m z;have x:=G.r.prf G.f G.u G.p m z;rw[W,K,Uy];refine⟨?_,rfl⟩;have e1:(Fg (bL b k).1 (aa (bL b k).1) (av (aa (bL b k).1) g)).st=(bW (bP b k).2.2.Yt g s).1.map (kI (bL b k).1 (aa (bL b k).1)):=by rw[x];rfl
    have e2:(Fg (bL b k).1 (aa (bL b k).1) (av (aa (bL b k).1) g)).why=0:=by
     rw[x];have:(bW (bP b k).2.2.Yt g s).2.1=0:=by simpa using R
     exact this
    have Y:∀i,i<(bW (bP b k).2.2.Yt g s).1.length->(aQ ((bW (bP b k).2.2.Yt g s).1.map (kI (bL b k).1 (aa (bL b k).1))) i).ref≠-1:=fun i C=>by
     rw[kE _ _ C];have t:=o;unfold lg at t;rw[vM (bP b k).2.2.Yt J,UO,Vt,Vt]at t;have er:dX (bP b k).2.2.Yt g=cQ (bP b k).2.2.Yt g s (cU (bP b k).2.2.Yt g):=by
      unfold dX jO;rw[m];simp only;rw[z,Ud (by decide),Uf (by decide)]
     rw[er]at t;obtain⟨A,-⟩:=vl t;rcases oD (bP b k).2.2.Yt g s i _ (Ub C) with q | ⟨q,-⟩ | ⟨q,-⟩
     ·unfold pD at A;rw[U8]at A;have:=A i (Up.2 C);rw[Ub C]at this;simp only at this;rw[q]at this;exact absurd rfl this
     ·unfold kI;rw[q,Ud (by omega),Ud (by omega)];simp
     ·unfold kI;rw[q,Ud (by omega),Uf rfl];simp only;omega
    rw[<-e1]at Y ⊢;rw[<-Uy (f:=kI (bL b k).1 (aa (bL b k).1)),<-e1]at hW Y;obtain⟨P0,hz⟩:=(dN (bL b k).1).s _ y;exact Sv (by omega) hO hT (by omega) y (fun j hj=>(OX _ hT G.u _ (Ue _)).ok.a j (by omega)) e2 hW Y
   refine(LH n ac (av (aa (bL b k).1) g) c _ aT cT _ aS cS _ _ v O.ao O.cap E B.ao B.cap w r.db hJ (by omega) (by rw[P.len];exact y) (fun o=>(I o).1) (F.mono (fun e D q=>?_))).mono (fun e D q=>?_)
   ·obtain⟨M,Z⟩:=q;rw[l]at M;exact⟨M,Z⟩
   ·unfold xl at q;simp only;rw[L];cases o:cG E (av (aa (bL b k).1) g)
    ·rw[o,Uf rfl]at q;rw[Ud (by simp)];exact q
    ·rw[o,Ud (by simp)]at q;rw[Uf rfl,(I o).2];split at q
     ·next S=>rw[Uf S];exact q
     ·next S=>rw[Ud S];exact q
theorem Gu{a:List St}(j:l<a.length)(c:lg (cU a a.length) l=true):((bW a l a[l]).2.1==0)=true/\∀i (d:i<(bW a l a[l]).1.length),(((bW a l a[l]).1[i].Yw==3)=false->(bW a l a[l]).1[i].Yd<a.length)/\(((bW a l a[l]).1[i].Yw==3)=true->(bW a l a[l]).1[i].Yd<i):=by
 have k:a[l]?=some a[l]:=Ub j;unfold lg at c;rw[vM a j,UO,Vt,Vt]at c;have n:=(yQ k).1 c;have e:dX a l=cQ a l a[l] (cU a l):=by
  unfold dX jO;rw[k];simp only;rw[n,Ud (by decide),Uf (by decide)]
 rw[e]at c;obtain⟨g,m,-⟩:=vl c;refine⟨m,fun i d=>?_⟩;rcases oD a l a[l] i _ (Ub d) with b | ⟨b,f⟩ | ⟨b,f⟩
 ·unfold pD at g;rw[U8]at g;have:=g i (Up.2 d);rw[Ub d]at this;simp only at this;rw[b]at this;exact absurd rfl this
 ·rw[b];exact⟨(fun h=>by cases h),fun _=>f⟩
 ·rw[b];exact⟨fun _=>f.lt,(fun h=>by cases h)⟩
set_option maxRecDepth 512
theorem E3(h:kJ S n b) :
  Calls prog 45 #[pointer (some ⟨n,0,none⟩),string x] S fun e a=>Md [] 7 S e a:=by
 have c:Xr (Calls prog 60 #[pointer (some ⟨n,0,none⟩),string x] S fun e a=>e=returned (tuple #[int i64 0,int i64 7])/\ae [] S a):=by
  show Calls _ _ _ _ _;obtain⟨f,-⟩:=jy.cells h;clear h;go_enter func60,ntmps60;go_wp2;go_ret2;exact⟨rfl,ae.refl _ _⟩
 clear h;go_enter func45,ntmps45;go_wp2_with (go_at_call 60;refine Ug c.o ?_;rintro e g ⟨rfl,d⟩);go_ret2;exact wS 7 d
theorem Md.base{L:Xt}{c:Int}{f:World}{e:Ending}(h:Md L c k e f)(a:ae [] d k):Md L c d e f:=by
 obtain⟨g,i,j,l,m⟩:=h;exact⟨g,i,j,fun b e=>Un a.size (l b e),a.trans m⟩
theorem Hh(h:nK S n b w v f)(B:j6 w)(j:∀a (m:a<w.length),vQ w[a]) :
  Calls prog 45 #[pointer (some ⟨n,0,none⟩),string x] S fun e p=>Md (vR w x).1 (vR w x).2 S e p:=by
 have z:=B.len;have k:=LV n b w v f x S h (by omega);have y:=bO.lt (Xh (Xh (Xh h.ver)));unfold vR;cases t:lx w x with
 | none =>
  rw[t]at k;have i:Xr _:=k;clear k h j;go_enter func45,ntmps45;go_wp2_with (go_at_call 60;refine Ug i.o ?_;rintro e d ⟨rfl,g⟩);go_ret2;exact wS 8 g
 | some a =>
  rw[t]at k;obtain⟨m,I,-⟩:=Dr t;have i:Xr _:=k;have l:Xr (∀d,ae [] S d->Calls prog 69 #[pointer (some ⟨n,10,none⟩),int i64 a] d fun e p=>Md (if lg (cU w w.length) a=true then rm w a else([],9)).1 (if lg (cU w w.length) a=true then rm w a else([],9)).2 d e p):=fun d g=>by
   refine(Gv n 10 a w v f (cU w w.length) d (h.Yh g).repAt B m (j a m) (Gu m)).mono (fun e p q=>?_);have E:rm w a=oq (ij w) (fP w) (bW w a w[a]).1 ⟨[],[],[]⟩:=by unfold rm;rw[Ub m]
   unfold Fm at q;split at q
   ·next u=>rw[Uf u,E];exact q
   ·next u=>rw[Ud u];exact q
  have C:Xr (∀d,ae [] S d->n<d.heap.size):=fun d g=>Ul y g.size;clear k h j;simp only;generalize (if lg (cU w w.length) a=true then rm w a else([],9))=R at *;obtain⟨A,c⟩:=R;simp only at l ⊢;go_enter func45,ntmps45;go_upto_region 4 with (go_at_call 60;refine Ug i.o ?_;rintro e d ⟨rfl,g⟩)
  have s:Xr _:=l.o d g;have r:Xr _:=g;clear g;go_wp2_with (go_at_call 69;refine Ug s.o ?_;rintro e J ⟨D,rfl,F,G,H⟩);go_ret2;exact Md.base ⟨D,rfl,F,G,H⟩ r.o
theorem Lb(d:Option Nat)(a:Xs)(w:World)(m:ev w n b H f d)(c:∀j,j<b.length->(ak b j).size<=1024) :
  Calls prog 45 #[pointer (some ⟨n,0,none⟩),string a] w fun e o=>Md (Bk b d a).1 (Bk b d a).2 w e o:=by
 have i:=m.s;cases d with
 | none=>exact E3 n b a w i
 | some k =>
  obtain⟨-,l,g,r,-⟩:=i;exact Hh n b _ l g a w r (yL b c k).ok (yL b c k).prf
end Go.Proofs.YtnbhnocdhbcbcaaGreat
