import Derived.Test.YtnbhnocdhbcbcaaGreatG34
import Derived.Test.YtnbhnocdhbcbcaaGreatG36
namespace Go.Proofs.YtnbhnocdhbcbcaaGreat
open Go.RowKit Tryz
open Value IntKind Ending
set_option maxHeartbeats 0
variable(l b:Nat)(H:Nat×Nat->It)(w:Mc)(n:Fs)(x:Hd)(d:List Wx)(a:Nat)(k:Option Addr)(v:Nat)(y:Option Nat)(S:List qU)(T:World)
def Ec(fs:Fs)(st:Option Nat):List fO :=
 match st with
 | none=>[]
 | some k=>(Dg (cv fs k).2.2.Wv).map Dz
theorem Li(a:zV n):(Ec n y).length<=100000:=by
 unfold Ec;cases y with
 | none=>show(0:Nat)<=_;omega
 | some k =>
  have c:=(xA n a k).ok.len;simp only;rw[Sn];have b:=TQ (fun r:Rw=>!(r.Wk==0)) (ev (cv n k).2.2.Wv (cv n k).2.2.Wv.length);rw[lR]at b;unfold Dg;omega
theorem Nb(L:List Rw):(L.map Dz).flatMap gx=iI L:=by
 unfold iI;rw[Vo];rfl
theorem MN(t:dJ T b n a v y)(f:∀j,j<n.length->(ak n j).size<=1024) :
  Calls prog 39 #[pointer (some ⟨b,0,none⟩)] T fun e l=>Rn (Ec n y) T e l:=by
 have o:=t.s;cases y with
 | none =>
  refine(FZ b n T o).mono (fun e l q=>⟨none,q.1,⟨⟨fun _=>rfl,fun _=>rfl⟩,fun c e=>by cases e⟩,(fun c e=>by cases e),?_⟩);rw[q.2];exact aa.refl _ _
 | some k =>
  obtain⟨-,H,g,r,-⟩:=o;refine(KG b n _ H g T r (xA n f k).ok.len).mono (fun e l q=>?_);obtain⟨u,i,d,w,p⟩:=q;unfold Ec;simp only;cases u with
  | none =>
   have d:Dg (cv n k).2.2.Wv=[]:=d;rw[d]at i ⊢;exact⟨none,i,⟨⟨fun _=>rfl,fun _=>rfl⟩,fun c e=>by cases e⟩,(fun c e=>by cases e),p⟩
  | some m =>
   obtain⟨z,x⟩:=d;refine⟨some m,by rw[Sn];exact i,⟨⟨(fun e=>by cases e),fun e=>?_⟩,fun c e=>?_⟩,(fun c e=>by cases e;exact w m rfl),p⟩
   ·have:=congrArg List.length e;rw[Sn]at this;simp only[List.length_nil]at this;omega
   ·cases e
    rw[Nb];exact x
theorem RO(F:dA T b n x a v y)(m:∀k,y=some k->k<n.length/\((gn n k).1==0)=true)(l:n.length<=4)(o:∀j,j<n.length->(ak n j).size<=1024) :
  Calls prog 23 #[pointer (some ⟨b,0,none⟩)] T fun e t=>Rm (Ec n y) T e t:=by
 have z:=F.s;cases y with
 | none =>
  obtain⟨H,I,J,r⟩:=z;refine(Kb b _ H I J T r.d).mono (fun e t q=>⟨⟨none,0⟩,q.1,?_⟩);rw[q.2];exact⟨Sb _ _ _ _,(by intro k i;cases i),aa.refl _ _⟩
 | some k =>
  obtain⟨i,D⟩:=m k rfl;obtain⟨G,U,S⟩:=Oe l o i D;obtain⟨N,M,P,L,O,K,R,c,w,r⟩:=z;have E:=r.fin.tell;have V:(ab (cZ n k).1).length<=(cZ n k).1.length:=tI _ _;have g:c.length<=100000:=by rw[E.len];omega
  have e:pF c=Ec n (some k):=G.r.told G.f G.u G.p r.ps r.fin;refine(Ka b c w.ao w.cap _ _ _ T r.rv.d (aC.srcG (f:=gx) r.s2 (fun _=>rfl)) g).mono (fun Q t q=>?_);obtain⟨C,A,B⟩:=q;rw[e]at A B;exact⟨C,A,B⟩
set_option maxRecDepth 100000
theorem O8(A C D:Int)(s t:ByteArray)(n:World)(h:dI n l H w x d b)(hV:w.V.length≠0)(hA:sG A)(hN:b<=1073741824) :
  Calls prog 10 #[pointer (some ⟨l,0,none⟩),agg #[int i64 11,int i64 A,int i64 C,int i64 D,string s,string t]] n fun e R=>yO l H b e R:=by
 obtain⟨W,S⟩:∃W,Hid (n.alloc (.cells #[int i64 11,int i64 A,int i64 C,int i64 D,string s,string t] 28)=W):=⟨_,rfl⟩
 obtain⟨N,M,ag,u⟩:=h.m.boxed 11 A C D s t W S.out;have HT:Hid (dI W l H w x d b):=h.Wj u;obtain⟨y,z,Y,Z,o4,o5,B⟩:=dV M;have HL:Hid _:=(nk l b H w 11 A C D s t W N (by omega));have HS:Hid (jO W l n.heap.size H w b 11 A C D s t):=⟨N,M⟩;have af:=h.m.len.1;have q:Hid (∀G,Calls prog 13 #[int i64 A,int i64 w.V.length] G fun e R=>e=returned (int i64 (fU A w.V.length:Nat))/\R=G):=fun G=>gC A w.V.length G hA ⟨by omega,by omega⟩;have r:=iH A w.V.length (by omega);obtain⟨i,Hi⟩:∃i,Hid (fU A w.V.length=i):=⟨_,rfl⟩
 rw[Hi.out]at q r;have ad:((w.V.length:Int)==0)=false:=Sp.2 (by omega);have ai:(i:Int)<(w.V.length:Int):=by omega
 clear h N M u;go_enter func10,ntmps10;go_upto_region 1 with fail
 rw[S.out];go_upto_region 2 with (go_at_call 12;refine R0 HL.out ?_;rintro e F ⟨rfl,P⟩)
 have c:Hid (jO F l n.heap.size H w b 11 A C D s t):=HS.out.Wj P;have J:Hid (dI F l H w x d b):=HT.out.Wj P;clear y z Y Z o4 o5 B P;obtain⟨y,z,-⟩:=dV c.out.o;have B:=ae c.out.o;have L:F.cell? ⟨l,0,none⟩=some (slice w.hx.ao w.V.length w.hx.cap):=by rw[aj c.out.m.blk];rfl
 have T:=ae c.out.m.blk;go_upto_region 4 with fail
 go_quiet ((go_at_call 13;exact Ss (q.out _)));go_upto_region 5 with fail
 obtain⟨g,j⟩:∃g,Hid (F.drewN nq=g):=⟨_,rfl⟩
 rw[j.out];have f:Hid (jO g l n.heap.size H w b 11 A C D s t):=c.out.Wj (by rw[<-j.out];exact(aa.refl [] _).drewN nq);have K:Hid (dI g l H w x d b):=J.out.Wj (by rw[<-j.out];exact(aa.refl [] _).drewN nq);clear y z B L T;obtain⟨y,z,Y,Z,o4,o5,B⟩:=dV f.out.o;obtain⟨ac,m,v,hd,lo,hi,Q,O,E,g1,g2,a,⟨U,z1,d1⟩,X,z2,d2⟩:=f.out.m.ver r;have L:g.cell? ⟨l,0,none⟩=some (slice w.hx.ao w.V.length w.hx.cap):=by rw[aj f.out.m.blk];rfl
 have c1:g.cell? ⟨l,1,none⟩=some (slice w.hm.ao w.V.length w.hm.cap):=by rw[aj f.out.m.blk];rfl
 rw[U]at L;rw[X]at c1;have T:=ae f.out.m.blk;have I:Hid _:=(J9 l b H w x d ac m (Ec v E) g K.out hN (Li v E a.ok) (MN ac v lo hi E g a.p a.ok) (fun w3 k=>RO m v hd Q O E w3 (a.d.Wj k) a.st a.le a.ok));clear a U X;go_wp2_with (go_at_call 18;refine R0 I.out ?_;rintro e w3 ⟨rfl,q1⟩);go_ret;exact⟨rfl,q1⟩
theorem Km(o:qU)(f:World)(h:dI f l H w x d b)(n:b<=1073741824)(G:DY (fun o=>o.k=11) o) :
  Calls prog 10 #[pointer (some ⟨l,0,none⟩),agg #[int i64 o.k,int i64 o.a,int i64 o.c,int i64 o.d,string o.s,string o.t]] f fun e u=>yO l H b e u:=by
 obtain⟨k,A,C,D,s,t⟩:=o;obtain⟨p,y,F,B,r,J⟩:=G;simp only at *;have i:=h.m;have j:∀{c:Calls prog 10 #[pointer (some ⟨l,0,none⟩),agg #[int i64 k,int i64 A,int i64 C,int i64 D,string s,string t]] f (fun e u=>iU l H w b true e u)},Calls prog 10 #[pointer (some ⟨l,0,none⟩),agg #[int i64 k,int i64 A,int i64 C,int i64 D,string s,string t]] f (fun e u=>yO l H b e u):=fun {c}=>c.mono (fun e u q=>h.up q);have z:k=1∨k=2∨k=3∨k=4∨k=5∨k=6∨k=7∨k=15∨k=16∨k=17∨k=18∨(k=8∨k=9∨k=10∨k=11):=by omega
 rcases z with rfl | rfl | rfl | rfl | rfl | rfl | rfl | rfl | rfl | rfl | rfl | E
 ·exact j (c:=iO l b H w _ A C D s t f i (fun W g=>Qg l b H w A C D s t W g n))
 ·exact j (c:=iO l b H w _ A C D s t f i (fun W g=>Qh l b H w A C D s t W g n B r))
 ·exact j (c:=iO l b H w _ A C D s t f i (fun W g=>Qi l b H w A C D s t W g))
 ·exact j (c:=iO l b H w _ A C D s t f i (fun W g=>Qj l b H w A C D s t W g n))
 ·exact j (c:=iO l b H w _ A C D s t f i (fun W g=>Qk l b H w A C D s t W g n))
 ·exact j (c:=iO l b H w _ A C D s t f i (fun W g=>Ql l b H w A C D s t W g n p y B r))
 ·exact j (c:=iO l b H w _ A C D s t f i (fun W g=>Qm l b H w A C D s t W g p y F))
 ·exact j (c:=iO l b H w _ A C D s t f i (fun W g=>Ou l b H w A C D s t W g))
 ·exact j (c:=iO l b H w _ A C D s t f i (fun W g=>Ov l b H w A C D s t W g))
 ·exact Kl l 17 A C D s t f _ (fun W I=>Mq l b H w x d A C D s t W (h.Wj I) n p y)
 ·exact j (c:=iO l b H w _ A C D s t f i (fun W g=>Mr l b H w A C D s t W g h.t))
 by_cases v:w.V.length=0
 ·exact j (c:=Kp l b H w k A C D s t f i (by omega) v)
 ·rcases E with rfl | rfl | rfl | rfl
  ·exact j (c:=QZ l b H w A C D s t f i v p y n)
  ·exact j (c:=Q0 l b H w A C D s t f i v p n B r)
  ·exact j (c:=Qz l b H w A C D s t f i v p n)
  ·exact O8 l b H w x d A C D s t f h v p n
theorem Jm{f w d:World}{h:Hd}{L:List qU}(r:aa [] f w)(p:aC w h (qo L))(k:aa [] w d)(o:d.heap[w.heap.size]?=some (.cells Qn.cells.toArray 42)):∃I,dI d w.heap.size I Qn ⟨none,0⟩ [] 0/\I (10,0)=Rj f h L:=by
 have s:oN w (fw (fun _=>Rv) (10,0) (Rj f h L)):=by
  refine⟨fun q=>?_,fun q C a b l n=>?_⟩
  ·by_cases e:q=(10,0)
   ·subst e;rw[bP];exact⟨r,p⟩
   ·rw[RM _ _ e];exact trivial
  ·by_cases e:q=(10,0)
   ·subst e;rw[RM _ _ (Ne.symm a)]at n;cases n
   ·rw[RM _ _ e]at l;cases l
 have t:=s.put (0,0) (rU w.heap.size 42 Qn.cells) (k.mono (by simp)) o (fun q a=>RZ (by rw[Se.1 a];exact RV _));have u:=t.put (1,0) (cw ⟨none,0⟩ (lQ 46 [])) (aa.refl _ _) (Sb _ _ _ _) (fun q a=>by cases a);have v:=u.put (2,0) (cw ⟨none,0⟩ (lQ 47 [])) (aa.refl _ _) (Sb _ _ _ _) (fun q a=>by cases a);have y:=v.put (3,0) (cw ⟨none,0⟩ (cK [])) (aa.refl _ _) (Sb _ _ _ _) (fun q a=>by cases a);have z:=y.put (4,0) (cw ⟨none,0⟩ (iz [])) (aa.refl _ _) (Sb _ _ _ _) (fun q a=>by cases a);have A:=z.put (5,0) (cw ⟨none,0⟩ (iz [])) (aa.refl _ _) (Sb _ _ _ _) (fun q a=>by cases a);have B:=A.put (14,0) (cw ⟨none,0⟩ (mI [])) (aa.refl _ _) (Sb _ _ _ _) (fun q a=>by cases a);refine⟨_,⟨⟨B,?_,?_,?_,?_,?_,?_,(fun i x m g c=>by cases c),(fun i x m g c=>by cases c),(fun j=>⟨by show(0:Nat)<=_;omega,by show(0:Nat)<=_;omega⟩),⟨RV _,RV _,RV _⟩,⟨⟨by decide,by decide⟩,⟨by decide,by decide⟩,by decide,by decide⟩⟩,rfl,⟨rfl,bP _ _ _,(fun i x m g c=>by cases c),RV _⟩⟩,?_⟩
 all_goals (simp only[fw];rfl)
theorem Q6(h:Hd)(L:List qU)(w:World)(A:aa [] T w)(p:aC w h (qo L))(y:L.length<=1073741824)(q:∀i,i<L.length->DY (fun o=>o.k=11) (mo L i)) :
  Calls prog 9 #[slice h.ao L.length h.cap] w fun e t=>e=returned (int i64 (-1))/\aa [] T t:=by
 refine Ny _ T h L w y q (fun n wr=>∃I M b a,dI wr w.heap.size I M b a n/\I (10,0)=Rj T h L) ?_ ?_ ?_ ?_ ?_
 ·intro W B z;obtain⟨I,g,j⟩:=Jm A p B z;exact⟨I,_,_,_,g,j⟩
 ·rintro n wr ⟨I,M,b,a,c,d⟩;have s:=c.m.sep.all (10,0);rw[d]at s;exact s
 ·rintro n wr C ⟨I,M,b,a,c,d⟩ k;exact⟨I,M,b,a,c.Wj k,d⟩
 ·rintro n wr o ⟨I,M,b,a,c,d⟩ l p;refine(Km w.heap.size n I M b a o wr c l p).mono ?_;rintro e t ⟨g,u,v,r,f,j,x⟩;exact⟨g,u,v,r,f,j,x.trans d⟩
 ·rintro n wr ⟨I,M,b,a,c,d⟩ l;exact EU w.heap.size n I M b a wr c l
theorem Ff(K:List Int)(f:Option Addr)(w:World)(l:S.length<=140737488351232)(j:od w k S)(c:∀o∈S,DW o)(b:wi w f K)(a:K.length<=100)(g:∀o∈S,o.k∈K->o.k=11) :
  Calls prog 6 #[slice k S.length v,slice f K.length K.length] w fun e n=>e=returned (bool true)/\aa [] w n :=
 JJ (fun o=>o.k=11) k v S K f w l j c b a g (fun h L wr m c i d=>Q6 w h L wr m c i d)
theorem Bm(i:S.length*64<=140737488351232)(c:od T k S)(d:∀o∈S,DW o) :
  Calls prog 3 #[slice k S.length v] T fun e b=>e=returned (bool true)/\aa [] T b:=by
 have a:Hid (Calls prog 6 #[slice k S.length v,slice (some ⟨T.heap.size,0,none⟩) 1 1] (T.alloc (.cells #[int i64 11] 3)) fun e b=>e=returned (bool true)/\aa [] (T.alloc (.cells #[int i64 11] 3)) b) :=
  Ff k v S [11] (some ⟨T.heap.size,0,none⟩) (T.alloc (.cells #[int i64 11] 3)) (by omega) (od.Wj c ((aa.refl [] _).alloc _)) d (wi.of (R2 _ _)) (by decide) (fun o _ f=>by simpa using f)
 clear c d;go_enter func3,ntmps3;go_wp2_with (go_at_call 6;refine R0 a.out ?_;rintro e j ⟨rfl,g⟩);go_ret;exact⟨rfl,((aa.refl [] _).alloc _).trans g⟩
end Go.Proofs.YtnbhnocdhbcbcaaGreat
