import Derived.BigQuiet
import Derived.Maps.AppendAt
import Derived.Test.YtnbhnocdhbcbcaaGreatK08
namespace Go.Proofs.YtnbhnocdhbcbcaaGreat
open Go.RowKit Tryz
open Value IntKind Ending
set_option maxHeartbeats 0
variable{x:Nat}{y I:World}{N:Hd}{S M:Xt}{k:Nat->Hd}(o L w:Nat)(b:List St)(d:Nat->Hd)(D:Xt)(a:List Xt)(i:Xt)(f:World)(H:Xt)(T:Xs)(n:Nat)(l:Fs)
def zC(p:Pl):Prop:=(-1000000000<=p.X3/\p.X3<=1000000000)/\LV p
structure Gd(d:Db)(m:Nat):Prop where
 bnd:oI d m
 now:kV d.XK<=m/\∀x∈d.XK,zC x.2
 XQ:∀s∈d.XQ,0<s.Xz.length/\s.Xz.length<=m/\s.XK.length<=m/\kV s.XK<=m/\(∀x∈s.XK,zC x.2)/\zC s.XY
theorem Gq(l:List (Xs×Pl))(x:Xs×Pl):kV (l++[x])=kV l+x.1.size:=by
 simp[kV]
theorem FG{l:List St}{s:St}(h:s∈kE l x):∃a∈l,s.Xz=a.Xz/\s.XK=a.XK/\s.XY=a.XY:=by
 unfold kE g7 at h;rw[List.mem_mapIdx]at h;obtain⟨i,b,rfl⟩:=h;refine⟨l[i],TP b,?_⟩;split
 ·unfold lK;split <;> exact⟨rfl,rfl,rfl⟩
 ·exact⟨rfl,rfl,rfl⟩
theorem Gd.take{d:Db}(h:Gd d x)(i:Xs)(p:Pl)(n:Nat)(B:i.size<=n)(z:1<=n)(o:zC p):Gd (aZ d i p).2 (x+n):=by
 have u:=(h.bnd.take i p).mono (m':=x+n) (by omega);have A:=h.bnd.XK;have v:=h.bnd.XB;refine⟨u,?_,?_⟩
 ·rcases GE d i p with e | e | e
  ·rw[e];exact⟨by have:=h.now.1;omega,h.now.2⟩
  ·rw[e];exact⟨by simp[kV],by simp⟩
  ·rw[e];refine⟨by rw[Gq];have:=h.now.1;simp only;omega,fun y g=>?_⟩;rcases Ug.1 g with g | g
   ·exact h.now.2 y g
   ·rw[TI.1 g];exact o
 ·rcases Om d i p with e | ⟨y,_,e⟩ | ⟨e,f⟩
  ·rw[e];intro s a;obtain⟨b,k,l,m,c⟩:=h.XQ s a;exact⟨b,by omega,by omega,by omega,c⟩
  ·rw[e];intro s a;obtain⟨w,j,q,r,t⟩:=FG a;obtain⟨b,k,l,m,c⟩:=h.XQ w j;rw[q,r,t];exact⟨b,by omega,by omega,by omega,c⟩
  ·rw[e];intro s a;rcases Ug.1 a with a | a
   ·obtain⟨b,k,l,m,c⟩:=h.XQ s a;exact⟨b,by omega,by omega,by omega,c⟩
   ·rw[TI.1 a];exact⟨f,by simp only;omega,by simp only;omega,by have:=h.now.1;simp only;omega,h.now.2,o⟩
theorem Gd.empty:Gd fT 0:=⟨oI.empty,by simp[fT,kV],by simp[fT]⟩
theorem yE(c:n<=T.size):(bQ T n).1.text.size<=(bQ T n).2-n/\(bQ T n).1.pos<=T.size:=by
 have a:=BZ T n c;have b:=tw T (skip T n) a.2;unfold bQ;simp only;split
 ·exact⟨by simp[ByteArray.size],b.2⟩
 ·split
  ·exact⟨by simp[ByteArray.size],by simp only;omega⟩
  ·refine⟨?_,by simp only;omega⟩;simp only[ByteArray.size_extract];omega
theorem xm(k:Nat)(a:k<=T.size):(bh T k).1.pos<=T.size:=by
 unfold bh;generalize T.size-k+1=f
 induction f generalizing k with
 | zero=>simp[cm,a]
 | succ f c =>
  have b:=(yE T k a).2;have d:=il T k a;rw[cm];split
  ·split
   ·exact b
   ·exact c (bQ T k).2 d.2.1
  ·split
   ·exact b
   ·exact b
theorem FO(k:Nat)(a:k<=T.size):(aM (aC T k).1=true->(aC T k).1.text.size<=(aC T k).2-k)/\(aC T k).1.pos<=T.size:=by
 unfold aC;generalize T.size-k+1=f
 induction f generalizing k with
 | zero=>exact⟨fun h=>by simp[dZ,aM]at h,by simp[dZ,a]⟩
 | succ f i =>
  have c:=yE T k a;have b:=il T k a;rw[dZ];split
  ·have d:=jF T (bQ T k).2 b.2.1;have e:=xm T (bQ T k).2 b.2.1;split
   ·have:=i _ d.2;exact⟨fun h=>by have:=this.1 h;omega,this.2⟩
   ·next g=>exact⟨fun h=>absurd h g,e⟩
  ·exact⟨fun _=>c.1,c.2⟩
theorem MD(s:Xs)(p:Nat)(c:p<=1024):zC (lq T s p):=by
 have a:=Be s p;have b:=Bx s p;unfold zC LV lq;simp only;omega
def OL(fs:Fs)(bg:List Bool)(m:Nat)(r:G7):Prop :=
 r.2.1.length=4/\eS fs r.2.1<=eS fs bg/\∃m',Gd r.2.2 m'/\m'+eS fs r.2.1<=m+eS fs bg
theorem JI(a:∀j,j<l.length->(ak l j).size<=1024)(x:Nat):(ak l x).size<=1024:=by
 rcases Xm x l.length with h | h
 ·exact a x h
 ·have:(ak l x).size=0:=by unfold ak;rw[To,Un h];rfl
  omega
theorem Ln(p:∀j,j<l.length->(ak l j).size<=1024)(f:Nat)(s:∀j a d m,a.length=4->Gd d m->OL l a m (cW l f j a d))(x k:Nat)(a:List Bool)(d:Db)(m:Nat)(q:k<=(ak l x).size)(o:a.length=4)(i:Gd d m)(r:aM (aC (ak l x) k).1=true) :
  OL l a (m+((aC (ak l x) k).2-k)) (ia l f x k a d).1/\(aC (ak l x) k).2<=(ia l f x k a d).2/\(ia l f x k a d).2<=(ak l x).size:=by
 have c:=gq (ak l x) k q;have w:=c.2.2 r;have y:=FO (ak l x) k q;have e:=JI l p x;unfold ia kt;split
 ·unfold oe;split
  ·exact⟨⟨o,Tq _,m,i,by simp only;omega⟩,Tq _,c.2.1⟩
  ·next j C b =>
   have g:=s j a d m o i;refine⟨⟨g.1,g.2.1,?_⟩,?_⟩
   ·obtain⟨v,z,B⟩:=g.2.2;exact⟨v,z,by simp only;omega⟩
   ·unfold sP at b;have u:=gq (ak l x) (aC (ak l x) k).2 c.2.1;have A:=gq (ak l x) (aC (ak l x) (aC (ak l x) k).2).2 u.2.1
    repeat' split at b
    all_goals first | (cases b;done) | skip
    injection b with b
    injection b with t n
    subst n;omega
 ·refine⟨⟨o,Tq _,m+((aC (ak l x) k).2-k),i.take _ _ _ (y.1 r) (by omega) (MD _ _ _ (by omega)),by simp only;omega⟩,Tq _,c.2.1⟩
theorem Pi(q:∀j,j<l.length->(ak l j).size<=1024)(f:Nat):(∀x k a d m,k<=(ak l x).size->a.length=4->Gd d m->(bH l f x k a d).2.1.length=4/\eS l (bH l f x k a d).2.1<=eS l a/\∃c,Gd (bH l f x k a d).2.2 c/\c+eS l (bH l f x k a d).2.1<=m+((ak l x).size-k)+eS l a) /\
  (∀j a d m,a.length=4->Gd d m->OL l a m (cW l f j a d)):=by
 have b:∀f,(∀x k a d m,k<=(ak l x).size->a.length=4->Gd d m->(bH l f x k a d).2.1.length=4/\eS l (bH l f x k a d).2.1<=eS l a/\∃c,Gd (bH l f x k a d).2.2 c/\c+eS l (bH l f x k a d).2.1<=m+((ak l x).size-k)+eS l a) ->
   (∀j a d m,a.length=4->Gd d m->OL l a m (cW l f j a d)):=by
  intro f h j a d m e g;unfold cW;split
  ·exact⟨e,Tq _,m,g,Tq _⟩
  ·next y =>
   have o:a.getD j true=false:=(by simpa using y);have G:=xW l a j e o;have:=h j 0 (a.set j true) d m (Uc _) (by simpa using e) g;refine⟨this.1,by omega,?_⟩;obtain⟨c,A,I⟩:=this.2.2;exact⟨c,A,by omega⟩
 induction f with
 | zero =>
  have r:∀x k a d m,k<=(ak l x).size->a.length=4->Gd d m->(bH l 0 x k a d).2.1.length=4/\eS l (bH l 0 x k a d).2.1<=eS l a/\∃c,Gd (bH l 0 x k a d).2.2 c/\c+eS l (bH l 0 x k a d).2.1<=m+((ak l x).size-k)+eS l a:=by
   intro x k a d m p e g;exact⟨e,Tq _,m,g,by simp only[bH];omega⟩
  exact⟨r,b 0 r⟩
 | succ f t =>
  have s:∀x k a d m,k<=(ak l x).size->a.length=4->Gd d m->(bH l (f+1) x k a d).2.1.length=4/\eS l (bH l (f+1) x k a d).2.1<=eS l a/\∃c,Gd (bH l (f+1) x k a d).2.2 c/\c+eS l (bH l (f+1) x k a d).2.1<=m+((ak l x).size-k)+eS l a:=by
   intro x k a d m p e g;cases n:aM (aC (ak l x) k).1 with
   | true =>
    have H:=gq (ak l x) k p;have F:=Ln l q f t.2 x k a d m p e g n;obtain⟨⟨v,D,u,w,L⟩,M,E⟩:=F;cases i:((ia l f x k a d).1.1.1==0) with
    | true =>
     rw[zU l f x k a d n i];obtain⟨B,J,z,C,K⟩:=t.1 x (ia l f x k a d).2 (ia l f x k a d).1.2.1 (ia l f x k a d).1.2.2 u E v w;exact⟨B,by omega,z,C,by omega⟩
    | false =>
     rw[pD l f x k a d n i];exact⟨v,D,u,w,by omega⟩
   | false =>
    by_cases i:(aC (ak l x) k).1.XY=true/\lM d=false
    ·rw[Bm l f x k a d n i.1 i.2];exact⟨e,Tq _,m,g,by simp only;omega⟩
    ·rw[xJ l f x k a d n i];exact⟨e,Tq _,m,g,by simp only;omega⟩
  exact⟨s,b (f+1) s⟩
def R0(l:List St):Prop:=∀s∈l,LV s.XY/\∀x∈s.XK,LV x.2
structure SB(l:List St):Prop where
 ok:jV l
 prf:∀i (hi:i<l.length),rX l[i]
 lns:R0 l
theorem uq(c:∀j,j<l.length->(ak l j).size<=1024)(k:Nat):SB (bE l k).2.2.XQ:=by
 obtain⟨_,_,m,a,o⟩:=(Pi l c 5000).2 k Ia fT 0 rfl Gd.empty;have g:=BB l c Ia;have f:m<=4104:=by omega
 have n:=a.bnd.XQ;unfold bE;refine⟨⟨by omega,fun i b=>?_,fun i b=>?_,fun i b=>?_⟩,fun i b=>⟨?_,?_⟩,?_⟩
 ·exact(a.XQ _ (TP b)).1
 ·have:=(a.XQ _ (TP b)).2.1;omega
 ·have:=(a.XQ _ (TP b)).2.2.1;omega
 ·have:=(a.XQ _ (TP b)).2.2.2.1;omega
 ·exact fun x d=>((a.XQ _ (TP b)).2.2.2.2.1 x d).1
 ·exact fun s e=>⟨(a.XQ s e).2.2.2.2.2.2,fun x d=>((a.XQ s e).2.2.2.2.1 x d).2⟩
def Dc(f:pu):Array Value:=#[int i64 f.1,string f.2.XZ,int i64 f.2.X0,int i64 f.2.X3]
theorem jQ{f:pu}(h:y.heap[x]?=some (.cells (Dc f) 165)) :
  y.cell? ⟨x,0,none⟩=some (int i64 f.1)/\y.cell? ⟨x,1,none⟩=some (string f.2.XZ)/\y.cell? ⟨x,2,none⟩=some (int i64 f.2.X0)/\y.cell? ⟨x,3,none⟩=some (int i64 f.2.X3):=by
 refine⟨?_,?_,?_,?_⟩ <;> (rw[ah h];rfl)
theorem CQ(s:St)(d:b.length<=10000)(e:s.XK.length<=10000):jo ⟨(b8 b n s.XY 1 (s.XK.drop 1) (aP b n)).2,[],[],0,false⟩ 20000:=by
 have a:=(zH b n s.XY (s.XK.drop 1) 1 (aP b n)).2;have c:(aP b n).length<=b.length:=pE b n b.length;simp only[List.length_drop]at a;exact⟨by simp only;omega,by simp,by simp,by simp,by simp⟩
set_option maxRecDepth 100000
theorem ta(hr:fM f o L b d)(ha:w<b.length)(ok:jV b)(b5:rX b[w]) :
  Calls prog 139 #[pointer (some ⟨o,L,none⟩),int i64 w] f fun e w'=>∃hd:Hd,
   e=returned (tuple #[slice hd.ao (kP b w b[w]).1.length hd.cap,iw (kP b w b[w]).2])/\aB w' hd (gu (kP b w b[w]).1)/\(∀x,hd.XS=some x->f.heap.size<=x)/\ae [] f w':=by
 have bT:=ok.len;have cc:=ok.prfs w ha;have cp:(aP b w).length<=b.length:=pE b w b.length;obtain⟨AO,bg⟩:=bn ((d (11+2*w)).ao);obtain⟨W,hW⟩:∃W,W=f.alloc (.cells #[int i64 0,string ⟨#[]⟩,int i64 0,int i64 0] 165):=⟨_,rfl⟩
 have K:=fI hW.symm;have BF:W.heap[f.heap.size]?=some (.cells bK 165):=by rw[hW];exact Tu _ _
 have HW:Xr _:=hW.symm;clear hW;go_enter func139,ntmps139;go_upto_region 1 with fail
 rw[HW.o];go_wp2_with fail;refine(bF o L w b d _ (hr.XE K) ha).mono ?_;rintro e u ⟨rfl,U⟩;unfold fS;rw[bg.o];obtain⟨TB,ap⟩:∃TB:Array Value,TB=#[int i64 b[w].XU,string b[w].XV,slice (d (10+2*w)).ao b[w].Xz.length (d (10+2*w)).cap,slice AO b[w].XK.length (d (11+2*w)).cap,string b[w].XY.XZ,int i64 b[w].XY.X0,int i64 b[w].XY.X3,int i64 b[w].til]:=⟨_,rfl⟩
 obtain⟨W2,F⟩:∃W2,W2=u.alloc (.cells #[int i64 b[w].XU,string b[w].XV,slice (d (10+2*w)).ao b[w].Xz.length (d (10+2*w)).cap,slice AO b[w].XK.length (d (11+2*w)).cap,string b[w].XY.XZ,int i64 b[w].XY.X0,int i64 b[w].XY.X3,int i64 b[w].til] 158):=⟨_,rfl⟩
 have bo:Xr _:=F.symm;have K2:ae [] f W2:=by rw[F];exact(K.trans U).alloc _
 have BT:W2.heap[u.heap.size]?=some (.cells TB 158):=by rw[F,ap];exact Tu _ _
 have a7:W2.heap[f.heap.size]?=some (.cells bK 165):=by rw[F];exact(bR.alloc _).get (U.get BF (by simp)) (by simp)
 have cq:f.heap.size<u.heap.size:=by have:=aj (U.get BF (by simp));omega
 have ct:=aj BT;have z:Xr _:=ap;clear F ap;go_upto_region 2 with fail
 rw[bo.o];clear HW bo U BF K;have ax:=K2.size;have b0:=hr.XE K2;go_wp2_with fail;refine(qE o L w b d _ b0 ha ok).mono ?_;rintro e I ⟨s,rfl,bx,bw,G⟩
 have CM:eI (I.alloc (.cells #[slice s.ao (aP b w).length s.cap,slice none 0 0,slice none 0 0,int i64 0,bool false] 279)) I.heap.size ⟨aP b w,[],[],0,false⟩ (zp s):=OW (cs:=md ⟨aP b w,[],[],0,false⟩ (zp s)) (rows:=yw ⟨aP b w,[],[],0,false⟩) bx (by
  intro i
  match i with
  | 0=>exact Ty _ _ _ _
  | 1=>exact Ty _ _ _ _
  | m+2=>exact Ty _ _ _ _)
 have K4:ae [] f (I.alloc (.cells #[slice s.ao (aP b w).length s.cap,slice none 0 0,slice none 0 0,int i64 0,bool false] 279)):=(K2.trans G).alloc _;have ag:(I.alloc (.cells #[slice s.ao (aP b w).length s.cap,slice none 0 0,slice none 0 0,int i64 0,bool false] 279)).heap[u.heap.size]?=some (.cells TB 158):=(bR.alloc _).get (G.get BT (by simp)) (by simp);have af:(I.alloc (.cells #[slice s.ao (aP b w).length s.cap,slice none 0 0,slice none 0 0,int i64 0,bool false] 279)).heap[f.heap.size]?=some (.cells bK 165):=(bR.alloc _).get (G.get a7 (by simp)) (by simp);have cu:W2.heap.size<=I.heap.size:=G.size;have n:∀x,ik (zp s) x->W2.heap.size<=x:=fun x a=>bw x (PJ a);obtain⟨W4,ar⟩:∃W4,W4=I.alloc (.cells #[slice s.ao (aP b w).length s.cap,slice none 0 0,slice none 0 0,int i64 0,bool false] 279):=⟨_,rfl⟩
 rw[<-ar]at CM K4 ag af;have br:Xr _:=ar.symm;clear ar bx bw G BT a7;go_upto_region 3 with fail
 rw[br.o];clear br;have b4:=CQ b w b[w] bT cc;have bv:=(zH b w b[w].XY (b[w].XK.drop 1) 1 (aP b w)).1;have R:=zw I.heap.size ⟨aP b w,[],[],0,false⟩ (zp s) o L w b d f W4 CM hr K4 ha ok (by simp only;omega) (by omega) (fun x a=>TF ax (n x a));have bj:Xr (zL b w b[w]=Cs (b8 b w b[w].XY 1 (b[w].XK.drop 1) (aP b w)).1.2 (b[w].XK.drop (b8 b w b[w].XY 1 (b[w].XK.drop 1) (aP b w)).1.1) ⟨(b8 b w b[w].XY 1 (b[w].XK.drop 1) (aP b w)).2,[],[],0,false⟩):=rfl;simp only at R;have cl:=bG.lt CM;simp only[List.length_drop]at bv;generalize b8 b w b[w].XY 1 (b[w].XK.drop 1) (aP b w)=BL at *;obtain⟨⟨nx,bf,bp⟩,ns⟩:=BL;simp only at R bj b4 bv;go_wp2_with fail;refine R.mono ?_;rintro e g ⟨rfl,H5,D5,Y⟩;unfold iw
 have K5:=K4.ofP Y.1 (fun x a=>by
  rcases a with e | e
  ·omega
  ·exact TF ax (n x e))
 have n1:¬ik H5 f.heap.size:=Y.fresh _ (by omega) (fun hm=>by have:=n _ hm;omega);have n2:¬ik H5 u.heap.size:=Y.fresh _ (by omega) (fun hm=>by have:=n _ hm;omega);have nb:∀x,ik H5 x->f.heap.size<=x:=fun x a=>by
  rcases Y.2 x a with e | e
  ·exact TF ax (n x e)
  ·omega
 have bd:=Y.1.get ag (by rintro (e | e);omega;have:=n _ e;omega);have ba:=Y.1.get af (by rintro (e | e);omega;have:=n _ e;omega);have n3:¬ik H5 g.heap.size:=fun hm=>by have:=bG.inlt D5 hm;omega
 have cr:=Y.1.size;obtain⟨W6,S⟩:∃W6,W6=g.alloc (.cells #[int i64 bf,string bp.XZ,int i64 bp.X0,int i64 bp.X3] 165):=⟨_,rfl⟩
 have k6:=fI S.symm;have a6:W6.heap[g.heap.size]?=some (.cells (Dc (bf,bp)) 165):=by rw[S];exact Tu _ _
 have C6:=eI.XE D5 k6;have be:=k6.get bd (by simp);have bc:=k6.get ba (by simp);have K6:=K5.trans k6;have bs:Xr _:=S.symm;clear S;go_upto_region 4 with fail
 rw[bs.o];clear bs ag af bd ba D5 Y R CM K4 K5 b0 k6;go_wp2
 go_loopg [10] (b[w].XK.length-nx) (fun gk iv wr=>∃(i:Nat) (l:lC) (y:Nat->Hd) (k:pu) (N:Nat),i<=10001/\gk=b[w].XK.length-i/\iv=int i64 i/\jo l N/\N+kV (b[w].XK.drop i)<=1020000/\Xr (zL b w b[w]=Cs k (b[w].XK.drop i) l)/\eI wr I.heap.size l y/\(∀x,ik y x->f.heap.size<=x)/\ae [] f wr /\
  wr.heap[f.heap.size]?=some (.cells bK 165)/\wr.heap[u.heap.size]?=some (.cells TB 158)/\wr.heap[g.heap.size]?=some (.cells (Dc k) 165)/\¬ik y f.heap.size/\¬ik y u.heap.size/\¬ik y g.heap.size)
 ·exact⟨nx,_,H5,(bf,bp),20000,by omega,by omega,rfl,b4,by have:=Ei b[w].XK nx;have:=b5.size;omega,bj,C6,nb,K6,bc,be,a6,n1,n2,n3⟩
 obtain⟨i,l,y,k,N,hi,hg,rfl,ad,hN,hR,hC,av,KW,B1,X,B9,n1,n2,n3⟩:=hrel;clear C6 nb K6 bc be a6;have cf:=hr.XE KW;have b1:=aj B1;have b2:=aj X;have b3:=aj B9;have E:=cf.XQ.prfs w b[w] (Tn ha);obtain⟨f0,f1,f2,f3⟩:=jQ B9;have yf:=am B9;obtain⟨J,M,O,P⟩:=dA B1;have yz:=am B1;have co:((i:Int) ≥ 0):=by omega
 obtain⟨az,aS,aT,a4,a5⟩:=hC.cells;by_cases H:i<b[w].XK.length
 ·cases c:(k.1==0)
  ·have t3:wr.cell? ⟨u.heap.size,3,none⟩=some (slice AO b[w].XK.length (d (11+2*w)).cap):=(by rw[ah X,z.o];rfl);have p:Xr (kP b w b[w]=([],k)):=ci (by unfold kP;rw[hR.o,II _ _ _ c];simp[mZ,c]);have q:(k.1 != 0)=true:=(by simp[bne,c]);clear hR E;(go_upto_region 13 with fail);go_region
   all_goals go_wp2
   all_goals exact Tz (v:=tuple #[slice none 0 0,agg #[int i64 k.1,string k.2.XZ,int i64 k.2.X0,int i64 k.2.X3]]) (by simp[results,results139,go_sem,J,M,O,P]) rfl ⟨⟨none,0⟩,by rw[p.o];rfl,by rw[p.o];exact Ty _ _ _ _,by intro x a;simp[Hd.XS]at a,(lL KW (Tq _) _ _ _ _).drew⟩
  ·obtain⟨gp,ep,ck,ca,d0,d1,d2,d3⟩:=E.word i H;obtain rfl:AO=some ⟨gp,0,none⟩:=bg.o.symm.trans ep;have t3:wr.cell? ⟨u.heap.size,3,none⟩=some (slice (some ⟨gp,0,none⟩) b[w].XK.length (d (11+2*w)).cap):=(by rw[ah X,z.o];rfl);clear ep E;have ac:=b5.X3 b[w].XK[i] (TP H);have ch:=Gp b[w].XK i H;have al:Xr _:=hR.o.trans (Rp k b[w].XK l i H c);have an:=AD b[w].XK[i].1 b[w].XK[i].2 ad;have TW:=Cb I.heap.size l y b[w].XK[i].1 b[w].XK[i].2.XZ b[w].XK[i].2.X0 b[w].XK[i].2.X3 wr hC N ad (by omega) ac;clear hR;generalize b[w].XK[i]=wd at *;obtain⟨t,pf,pl,pc⟩:=wd;simp only at d0 d1 d2 d3 al an TW ac ch;generalize ma t ⟨pf,pl,pc⟩ l=Q at *;obtain⟨⟨qf,qp⟩,c2⟩:=Q;simp only at al an TW;unfold iw at TW;clear J M O P yz az aS aT a4 a5;go_wp2_with fail;refine TW.mono ?_;rintro e w7 ⟨rfl,H7,D7,Z⟩;have bz:∀x,(x=I.heap.size∨ik y x)->f.heap.size<=x:=by
    rintro x (e | e)
    ·omega
    ·exact av x e
   have K7:=KW.ofP Z.1 bz;have q1:=Z.1.get B1 (by rintro (e | e);omega;exact n1 e);have q2:=Z.1.get X (by rintro (e | e);omega;exact n2 e);have q9:=Z.1.get B9 (by rintro (e | e);omega;exact n3 e);have m1:=Z.fresh f.heap.size b1 n1;have m2:=Z.fresh u.heap.size b2 n2;have m3:=Z.fresh g.heap.size b3 n3;have y9:=am q9;have m4:∀x,ik H7 x->f.heap.size<=x:=fun x a=>by
    rcases Z.2 x a with e | e
    ·exact av x e
    ·omega
   have kk:=fun a0 a1 a2 a3=>jR (w:=w7) (r:=g.heap.size) a0 a1 a2 a3;have ai:Xr _:=kk;have b6:Xr (∀a0 a1 a2 a3,((((w7.setCell ⟨g.heap.size,0,none⟩ a0).setCell ⟨g.heap.size,1,none⟩ a1).setCell ⟨g.heap.size,2,none⟩ a2).setCell ⟨g.heap.size,3,none⟩ a3).heap[g.heap.size]?=some (.cells #[a0,a1,a2,a3] 165)):=by
    intro a0 a1 a2 a3;rw[ab (ab (ab (ab q9 _ _) _ _) _ _)];rfl
   clear kk bz d0 d1 d2 d3 t3 f0 f1 f2 f3 yf;obtain⟨g0,g1,g2,g3⟩:=jQ q9;go_wp2;go_roundg (b[w].XK.length-(i+1))
   ·exact⟨i+1,c2,H7,(qf,qp),N+t.size,by omega,rfl,by go_num,an,by omega,al.o,bG.XR D7 (ai.o _ _ _ _) (by simp;omega) (by intro x a;simp;rintro rfl;exact m3 a),m4,lL K7 (by omega) _ _ _ _,(ai.o _ _ _ _).get q1 (by simp;omega),(ai.o _ _ _ _).get q2 (by simp;omega),b6.o _ _ _ _,m1,m2,m3⟩
   omega
 ·have t3:wr.cell? ⟨u.heap.size,3,none⟩=some (slice AO b[w].XK.length (d (11+2*w)).cap):=by rw[ah X,z.o];rfl
  cases c:(k.1==0)
  ·have p:Xr (kP b w b[w]=([],k)):=(by show _=_;unfold kP;rw[hR.o,II _ _ _ c];simp[mZ,c]);have q:(k.1 != 0)=true:=(by simp[bne,c]);clear hR E;(go_upto_region 13 with fail);go_region
   all_goals go_wp2
   all_goals exact Tz (v:=tuple #[slice none 0 0,agg #[int i64 k.1,string k.2.XZ,int i64 k.2.X0,int i64 k.2.X3]]) (by simp[results,results139,go_sem,J,M,O,P]) rfl ⟨⟨none,0⟩,by rw[p.o];rfl,by rw[p.o];exact Ty _ _ _ _,by intro x a;simp[Hd.XS]at a,(lL KW (Tq _) _ _ _ _).drew⟩
  ·have t4:wr.cell? ⟨u.heap.size,4,none⟩=some (string b[w].XY.XZ):=(by rw[ah X,z.o];rfl);have t5:wr.cell? ⟨u.heap.size,5,none⟩=some (int i64 b[w].XY.X0):=(by rw[ah X,z.o];rfl);have t6:wr.cell? ⟨u.heap.size,6,none⟩=some (int i64 b[w].XY.X3):=(by rw[ah X,z.o];rfl);have HE:Xr (kP b w b[w]=mZ b[w].XY (cZ,l)):=ci (by unfold kP;rw[hR.o,PK _ _ _ _ H c]);have q:(k.1 != 0)=false:=(by simp[bne,c]);clear hR E;by_cases T:l.XG=0
   ·have cb:¬((l.XG:Int) > 0):=(by omega);by_cases V:l.steps.length=0
    ·have cj:((l.steps.length:Int)==0)=true:=(by simp[V]);have p:Xr (kP b w b[w]=([],(1,b[w].XY))):=ci (by rw[HE.o];simp[mZ,cZ,T,V]);obtain⟨D,j⟩:∃D,D=(((wr.setCell ⟨g.heap.size,0,none⟩ (int i64 1)).setCell ⟨g.heap.size,1,none⟩ (string b[w].XY.XZ)).setCell ⟨g.heap.size,2,none⟩ (int i64 b[w].XY.X0)).setCell ⟨g.heap.size,3,none⟩ (int i64 b[w].XY.X3):=⟨_,rfl⟩
     have k8:ae [g.heap.size] wr D:=(by rw[j];exact jR _ _ _ _);have K8:ae [] f D:=(by rw[j];exact lL KW (by omega) _ _ _ _);have B:D.heap[g.heap.size]?=some (.cells (Dc (1,b[w].XY)) 165):=by
      rw[j,ab (ab (ab (ab B9 _ _) _ _) _ _)];rfl
     have A:=k8.get B1 (by simp;omega);have C:Xr _:=j.symm;clear j k8;(go_upto_region 12 with fail);rw[C.o];clear C f0 f1 f2 f3 yf J M O P yz az aS aT a4 a5 t3 t4 t5 t6 c q;obtain⟨f0,f1,f2,f3⟩:=jQ B;have yf:=am B;obtain⟨J,M,O,P⟩:=dA A;have yz:=am A;(go_upto_region 13 with fail);go_region
     all_goals go_wp2
     all_goals exact Tz (v:=tuple #[slice none 0 0,agg #[int i64 1,string b[w].XY.XZ,int i64 b[w].XY.X0,int i64 b[w].XY.X3]]) (by simp[results,results139,go_sem,J,M,O,P]) rfl ⟨⟨none,0⟩,by rw[p.o];rfl,by rw[p.o];exact Ty _ _ _ _,by intro x a;simp[Hd.XS]at a,(lL K8 (Tq _) _ _ _ _).drew⟩
    ·have cj:((l.steps.length:Int)==0)=false:=TU.2 (by omega);have p:Xr (kP b w b[w]=(l.steps,cZ)):=ci (by rw[HE.o];simp[mZ,cZ,T,V]);have bl:Xr (aB wr (y 2) (gu l.steps)):=bG.X9 hC 2;have bk:Xr (∀x,(y 2).XS=some x->f.heap.size<=x/\x≠f.heap.size):=fun x a=>⟨av x ⟨2,a⟩,fun e=>n1 ⟨2,e ▸ a⟩⟩
     clear V T;go_wp2;exact Tz (v:=tuple #[slice (y 2).ao l.steps.length (y 2).cap,agg #[int i64 0,string ⟨#[]⟩,int i64 0,int i64 0]]) (by simp[results,results139,go_sem,J,M,O,P]) rfl
      ⟨y 2,by rw[p.o];rfl,by rw[p.o];exact bl.o.XJ (fun x a=>(jR (r:=f.heap.size) _ _ _ _).block x (bl.o.lt a) (by simp;exact(bk.o x a).2)),fun x a=>(bk.o x a).1,lL KW (Tq _) _ _ _ _⟩
   ·have cb:(l.XG:Int) > 0:=(by omega);have p:Xr (kP b w b[w]=([],(4,b[w].XY))):=ci (by rw[HE.o];simp[mZ,cZ,T]);obtain⟨D,j⟩:∃D,D=(((wr.setCell ⟨g.heap.size,0,none⟩ (int i64 4)).setCell ⟨g.heap.size,1,none⟩ (string b[w].XY.XZ)).setCell ⟨g.heap.size,2,none⟩ (int i64 b[w].XY.X0)).setCell ⟨g.heap.size,3,none⟩ (int i64 b[w].XY.X3):=⟨_,rfl⟩
    have k8:ae [g.heap.size] wr D:=(by rw[j];exact jR _ _ _ _);have K8:ae [] f D:=(by rw[j];exact lL KW (by omega) _ _ _ _);have B:D.heap[g.heap.size]?=some (.cells (Dc (4,b[w].XY)) 165):=by
     rw[j,ab (ab (ab (ab B9 _ _) _ _) _ _)];rfl
    have A:=k8.get B1 (by simp;omega);have C:Xr _:=j.symm;clear j k8;(go_upto_region 10 with fail);rw[C.o];clear C f0 f1 f2 f3 yf J M O P yz az aS aT a4 a5 t3 t4 t5 t6 c q;obtain⟨f0,f1,f2,f3⟩:=jQ B;have yf:=am B;obtain⟨J,M,O,P⟩:=dA A;have yz:=am A;(go_upto_region 13 with fail);go_region
    all_goals go_wp2
    all_goals exact Tz (v:=tuple #[slice none 0 0,agg #[int i64 4,string b[w].XY.XZ,int i64 b[w].XY.X0,int i64 b[w].XY.X3]]) (by simp[results,results139,go_sem,J,M,O,P]) rfl ⟨⟨none,0⟩,by rw[p.o];rfl,by rw[p.o];exact Ty _ _ _ _,by intro x a;simp[Hd.XS]at a,(lL K8 (Tq _) _ _ _ _).drew⟩
def vf(s:St):Bool :=
 match s.XK with
 | []=>false
 | (t,_) :: _=>t.toList == [40]
def dC(l:List St)(a:Nat)(s:St):List kD×pu:=if vf s=true then kP l a s else dN l a s.XY s.XK []
theorem Ag(hr:fM f o L b d)(E:w<b.length)(N:jV b)(ad:rX b[w]) :
  Calls prog 101 #[pointer (some ⟨o,L,none⟩),int i64 w] f fun e w'=>∃a:Hd,
   e=returned (tuple #[slice a.ao (dC b w b[w]).1.length a.cap,iw (dC b w b[w]).2])/\aB w' a (gu (dC b w b[w]).1)/\(∀x,a.XS=some x->f.heap.size<=x)/\ae [] f w':=by
 have ai:=N.prfs w E;obtain⟨AO,F⟩:=bn ((d (11+2*w)).ao);obtain⟨W,M⟩:∃W,W=f.alloc (.cells #[int i64 0,string ⟨#[]⟩,int i64 0,int i64 0] 165):=⟨_,rfl⟩
 have K:=fI M.symm;have Q:W.heap[f.heap.size]?=some (.cells bK 165):=by rw[M];exact Tu _ _
 have HW:Xr _:=M.symm;clear M;go_enter func101,ntmps101;go_upto_region 1 with fail
 rw[HW.o];go_wp2_with fail;refine(bF o L w b d _ (hr.XE K) E).mono ?_;rintro e w1 ⟨rfl,l⟩;unfold fS;rw[F.o];obtain⟨D,j⟩:∃D,D=w1.alloc (.cells #[int i64 b[w].XU,string b[w].XV,slice (d (10+2*w)).ao b[w].Xz.length (d (10+2*w)).cap,slice AO b[w].XK.length (d (11+2*w)).cap,string b[w].XY.XZ,int i64 b[w].XY.X0,int i64 b[w].XY.X3,int i64 b[w].til] 158):=⟨_,rfl⟩
 have G:Xr _:=j.symm;have S:ae [] f D:=by rw[j];exact(K.trans l).alloc _
 have BT:=f9 j.symm;have R:D.heap[f.heap.size]?=some (.cells bK 165):=by rw[j];exact(bR.alloc _).get (l.get Q (by simp)) (by simp)
 have al:f.heap.size<w1.heap.size:=by have:=aj (l.get Q (by simp));omega
 have an:=aj BT;clear j;go_upto_region 2 with fail
 rw[G.o];clear HW G l Q K;obtain⟨-,-,-,t3,-⟩:=wt BT;have m:=hr.XE S;have k:=m.XQ.prfs w b[w] (Tn E)
 have g:Xr (∀(c:World) (fl:pu) (a:Hd) (O:List kD),ae [] D c->(∀x,a.XS=some x->D.heap.size<=x)->aB c a (gu O)->dC b w b[w]=(O,fl) ->
   c.frozen? ⟨f.heap.size,0,none⟩=false/\c.frozen? ⟨f.heap.size,1,none⟩=false/\c.frozen? ⟨f.heap.size,2,none⟩=false/\c.frozen? ⟨f.heap.size,3,none⟩=false /\
   c.cell? ⟨f.heap.size,0,none⟩=some (int i64 0)/\c.cell? ⟨f.heap.size,1,none⟩=some (string ⟨#[]⟩)/\c.cell? ⟨f.heap.size,2,none⟩=some (int i64 0)/\c.cell? ⟨f.heap.size,3,none⟩=some (int i64 0) /\
   ∀T U V X,Xr (ae [] f ((((c.setCell ⟨f.heap.size,0,none⟩ T).setCell ⟨f.heap.size,1,none⟩ U).setCell ⟨f.heap.size,2,none⟩ V).setCell ⟨f.heap.size,3,none⟩ X)/\aB ((((c.setCell ⟨f.heap.size,0,none⟩ T).setCell ⟨f.heap.size,1,none⟩ U).setCell ⟨f.heap.size,2,none⟩ V).setCell ⟨f.heap.size,3,none⟩ X) a (gu O))):=by
  intro c fl a O s ac I he;have B9:=s.get R (by simp);obtain⟨z,A,B,C⟩:=dA B9;have P:=am B9;refine⟨P 0,P 1,P 2,P 3,z,A,B,C,fun T U V X=>⟨lL (S.trans s) (Tq _) _ _ _ _,I.XJ (fun x q=>(jR (r:=f.heap.size) _ _ _ _).block x (I.lt q) (by simp;rintro rfl;have:=ac _ q;omega))⟩⟩
 have y:=S.size;rcases hpr:b[w].XK with _ | ⟨⟨t,p⟩,r⟩
 ·have H:b[w].XK.length=0:=by rw[hpr];rfl
  have i:Xr (dC b w b[w]=dN b w b[w].XY b[w].XK []):=ci (by simp[dC,vf,hpr]);rw[H]at t3;clear hpr k;go_wp2_with (go_at_call 140;refine(qQ o L w b d _ m E N).mono ?_;rintro e c ⟨a,rfl,J,u,s⟩;obtain⟨y0,y1,y2,y3,z,A,B,C,n⟩:=g.o c _ a _ s u J i.o;unfold iw);exact Tz (v:=tuple #[slice a.ao (dN b w b[w].XY b[w].XK []).1.length a.cap,iw (dN b w b[w].XY b[w].XK []).2]) (by simp[results,results101,go_sem,z,A,B,C,iw]) rfl
   ⟨a,by rw[i.o],by rw[i.o];exact(n _ _ _ _).o.2,fun x q=>TF y (u x q),(n _ _ _ _).o.1⟩
 ·have H:b[w].XK.length=r.length+1:=by rw[hpr];rfl
  obtain⟨gp,Z,af,Y,d0,-,-,-⟩:=k.word 0 (by omega);obtain rfl:AO=some ⟨gp,0,none⟩:=F.o.symm.trans Z;have ag:((b[w].XK.length:Int) > 0):=by omega
  simp only[hpr,List.getElem_cons_zero]at d0;cases hc:(t.toList == [40])
  ·have i:Xr (dC b w b[w]=dN b w b[w].XY b[w].XK []):=(by show _=_;simp[dC,vf,hpr,hc]);clear hpr k Z;go_wp2_with (go_at_call 140;refine(qQ o L w b d _ m E N).mono ?_;rintro e c ⟨a,rfl,J,u,s⟩;obtain⟨y0,y1,y2,y3,z,A,B,C,n⟩:=g.o c _ a _ s u J i.o;unfold iw);exact Tz (v:=tuple #[slice a.ao (dN b w b[w].XY b[w].XK []).1.length a.cap,iw (dN b w b[w].XY b[w].XK []).2]) (by simp[results,results101,go_sem,z,A,B,C,iw]) rfl
    ⟨a,by rw[i.o],by rw[i.o];exact(n _ _ _ _).o.2,fun x q=>TF y (u x q),(n _ _ _ _).o.1⟩
  ·have i:Xr (dC b w b[w]=kP b w b[w]):=(by show _=_;simp[dC,vf,hpr,hc]);clear hpr k Z;go_wp2_with (go_at_call 139;refine(ta o L w b d _ m E N ad).mono ?_;rintro e c ⟨a,rfl,J,u,s⟩;obtain⟨y0,y1,y2,y3,z,A,B,C,n⟩:=g.o c _ a _ s u J i.o;unfold iw);exact Tz (v:=tuple #[slice a.ao (kP b w b[w]).1.length a.cap,iw (kP b w b[w]).2]) (by simp[results,results101,go_sem,z,A,B,C,iw]) rfl
    ⟨a,by rw[i.o],by rw[i.o];exact(n _ _ _ _).o.2,fun x q=>TF y (u x q),(n _ _ _ _).o.1⟩
theorem M9:(prog.info? 61).map (fun i=>(i.zero,i.size,i.bytes))=some (some (slice none 0 0),1,24):=by kernel_rfl
structure Ex where
 hd:Hd
 xs:Xt
def xx(e:Ex):Value:=slice e.hd.ao e.xs.length e.hd.cap
def CZ(l:List Ex):List Value:=l.map xx
def ii(l:List Ex):eR:=⟨61,1,l.length,CZ l⟩
theorem vv(l:List Ex)(e:Ex):(⟨(ii l).e,(ii l).size,(ii l).n+1,(ii l).xs++[xx e]⟩:eR)=ii (l++[e]):=by simp[ii,CZ]
theorem tT(l:List Ex)(k:Nat)(h:k<l.length):(CZ l)[k]?=some (xx l[k]):=by simp[CZ,h]
theorem kZ.keptP{P:Nat->Prop}(v:kZ y N S)(k:fL P y I)(f:∀x,N.XS=some x->¬P x):kZ I N S:=by
 rcases v with v | ⟨g,b,a,t,c,d,e⟩
 ·exact TH v
 ·exact TE ⟨g,b,a,t,c,k.get d (f g (by unfold Hd.XS;rw[c];rfl)),e⟩
structure Cu(w:World)(b:Nat)(H:Nat->Hd)(e:Ex):Prop where
 view:kZ w e.hd e.xs
 adr:∃ad,e.hd.ao=some ad
 far:∀x,e.hd.XS=some x->x<w.heap.size/\x≠b/\¬ik H x
theorem Cu.turned{f:Nat->Hd}{e:Ex}(h:Cu y x k e)(t:aD x y k I f):Cu I x f e:=by
 refine⟨h.view.keptP t.1 (fun a d=>?_),h.adr,fun a d=>?_⟩
 ·obtain⟨_,b,c⟩:=h.far a d;rintro (e | e)
  ·exact b e
  ·exact c e
 ·obtain⟨g,b,c⟩:=h.far a d;exact⟨Tw g t.1.size,b,t.fresh a g c⟩
theorem Cu.XE{e:Ex}(h:Cu y x k e)(b:ae [] y I):Cu I x k e :=
 ⟨h.view.XE b,h.adr,fun c a=>⟨Tw (h.far c a).1 b.size,(h.far c a).2⟩⟩
def qU(vs:Xt)(be:List Ex):Nat->eR
 | 0=>aE vs
 | 1=>ii be
 | _+2=>aE []
def pR(vs:Xt)(be:List Ex)(H:Nat->Hd):List Value:=[slice (H 0).ao vs.length (H 0).cap,slice (H 1).ao be.length (H 1).cap]
structure mX(w:World)(b:Nat)(vs:Xt)(be:List Ex)(H:Nat->Hd):Prop where
 bag:bG w b 343 (pR vs be H) (qU vs be) H
 len:be.length=vs.length
 exs:∀e∈be,Cu w b H e
theorem mX.XE{a:List Ex}(h:mX y x S a k)(b:ae [] y I):mX I x S a k:=⟨h.bag.XE b,h.len,fun e c=>(h.exs e c).XE b⟩
theorem mX.cells{a:List Ex}(h:mX y x S a k) :
  y.cell? ⟨x,0,none⟩=some (slice (k 0).ao S.length (k 0).cap)/\y.cell? ⟨x,1,none⟩=some (slice (k 1).ao a.length (k 1).cap):=⟨h.bag.cell 0,h.bag.cell 1⟩
def zm(a b:Xt):Bool:=a.map (·.toList)==b.map (·.toList)
theorem O8(h:S.length≠M.length):zm S M=false:=by
 unfold zm;rw[TU];intro e;have:=congrArg List.length e;simp at this;exact h this
theorem QZ(a:n<S.length)(b:n<M.length)(h:(S[n].toList==M[n].toList)=false):zm S M=false:=by
 unfold zm;rw[TU]at h ⊢;intro e;have:=congrArg (fun l=>l[n]?) e;simp[a,b]at this;exact h this
theorem Ig(c:S.length=M.length)(h:∀k (a:k<S.length) (b:k<M.length),(S[k].toList==M[k].toList)=true):zm S M=true:=by
 unfold zm;rw[Vb];apply WC
 ·simpa using c
 ·intro k a b;simp at a b ⊢;exact Vb.1 (h k a b)
set_option maxRecDepth 512
theorem zN(p q:Hd)(a b:Xt)(w:World)(Y:kZ w p a)(Z:kZ w q b)(U:a.length<=1073741824)(V:b.length<=1073741824) :
  Calls prog 212 #[slice p.ao a.length p.cap,slice q.ao b.length q.cap] w fun e w'=>e=returned (bool (zm a b))/\ae [] w w':=by
 obtain⟨K,A⟩:=p;obtain⟨L,B⟩:=q;by_cases f:a.length=b.length
 ·have X:((a.length:Int) != b.length)=false:=by simp[f]
  by_cases H:a.length=0
  ·have d:Xr (zm a b=true):=Ig f (fun k p q=>by omega);go_enter func212,ntmps212;go_wp2;refine VB 1 ?_;rw[VT];go_wp2;go_ret;exact⟨aF d.o.symm,ae.refl _ _⟩
  ·rcases Y with rfl | ⟨g,u,M,t,D,E,y,N,O⟩
   ·simp at H
   rcases Z with rfl | ⟨R,l,C,t',F,G,z,P,Q⟩
   ·simp at f;simp[f]at H
   simp only at D F N O P Q;subst D;subst F;go_enter func212,ntmps212;go_wp2
   go_loopg [5] a.length (fun gk i wr=>∃k:Nat,k<=a.length/\gk=a.length-k/\i=int i64 k/\Xr (∀i (v:i<a.length) (x:i<b.length),i<k->(a[i].toList==b[i].toList)=true)/\ae [] w wr)
   ·exact⟨0,by omega,by omega,rfl,fun i _ _ T=>by omega,ae.refl _ _⟩
   obtain⟨k,hk,hg,rfl,c,r⟩:=hrel;by_cases s:k<a.length
   ·have j:k<b.length:=(by omega);have c1:wr.cell? ⟨g,u+k,none⟩=some (string a[k]):=(ah (r.get E (by simp)) (u+k)).trans (y k a[k] (Tn s));have c2:wr.cell? ⟨R,l+k,none⟩=some (string b[k]):=(ah (r.get G (by simp)) (l+k)).trans (z k b[k] (Tn j));have W:(k:Int)<a.length:=(by omega);have J:(k:Int)<b.length:=(by omega);have m:Xr _:=QZ k s j;have n:Xr ((a[k].toList==b[k].toList)=true->∀i (v:i<a.length) (x:i<b.length),i<k+1->(a[i].toList==b[i].toList)=true):=by
     intro S i v x T;by_cases e:i=k
     ·subst e;exact S
     ·exact c.o i v x (by omega)
    clear c y z E G;cases I:(a[k].toList==b[k].toList)
    ·have d:Xr _:=m.o I;clear m n f;(go_upto_region 6 with fail);go_quiet (fail);go_wp2;go_ret;exact⟨aF d.o.symm,r.drewN _⟩
    ·have d:Xr _:=n.o I;clear m n f;(go_upto_region 6 with fail);go_quiet (fail);go_wp2;go_roundg (a.length-(k+1))
     ·exact⟨k+1,by omega,rfl,by go_num,d.o,r.drewN _⟩
     omega
   ·have d:Xr (zm a b=true):=Ig f (fun i v x=>c.o i v x (by omega));clear c y z;go_wp2;go_ret;exact⟨aF d.o.symm,r⟩
 ·have d:Xr (zm a b=false):=O8 f;have X:((a.length:Int) != b.length)=true:=by simp[bne];omega
  go_enter func212,ntmps212;go_wp2;go_ret;exact⟨aF d.o.symm,ae.refl _ _⟩
theorem Lg(s:List Ex)(m:Nat->Hd)(x:Xs)(d:World)(h:mX d w H s m)(F:H.length<=1073741824) :
  Calls prog 279 #[pointer (some ⟨w,0,none⟩),string x] d fun e A=>e=returned (int i64 (oD (mF H x)))/\A=d:=by
 obtain⟨t,u⟩:=h.cells;have l:=h.len;have a:aB d (m 0) (aE H):=h.bag.X9 0;rw[l]at u;go_enter func279,ntmps279;go_wp2
 go_loopg [5] H.length (fun g i wr=>∃k:Nat,k<=H.length/\g=H.length-k/\i=int i64 k/\Xr (∀i,i<k->((H.getD i ⟨#[]⟩).toList==x.toList)=false)/\wr=d)
 ·exact⟨0,by omega,by omega,rfl,fun i q=>by omega,rfl⟩
 obtain⟨k,E,D,rfl,b,rfl⟩:=hrel;by_cases c:k<H.length
 ·rcases a.XP with ⟨_,z,_⟩ | ⟨g,v,n,-,C,-⟩
  ·have:H.length=0:=z;omega
  ·have B:=a.cell n k (string H[k]) (uG H k c);rw[n]at t;have f:Xr _:=wL H k c;generalize H[k]=y at *;cases p:(y.toList==x.toList)
   ·have r:Xr (∀i,i<k+1->((H.getD i ⟨#[]⟩).toList==x.toList)=false):=by
     intro i q;by_cases e:i=k
     ·subst e;rw[f.o];exact p
     ·exact b.o i (by omega)
    clear f h a;go_wp2;go_roundg (H.length-(k+1))
    ·exact⟨k+1,by omega,rfl,by go_num,r,rfl⟩
    omega
   ·have j:Xr (mF H x=some k):=pb c (by rw[f.o];exact p) b.o;clear f h a;go_wp2;go_ret;exact⟨au (by rw[j.o];rfl),rfl⟩
 ·have j:Xr (mF H x=none):=nQ (fun i q=>b.o i (by omega));clear h a;go_wp2;go_ret;exact⟨au (by rw[j.o];rfl),rfl⟩
theorem uK{P:Program}{A:Array Oper}{p:List Oper}{o:Oper}{a:Act}{Q:Exit->Act->World->Prop}(V:o.guard=none)(s x:Operand)(t:TypeId)(F:o.op=Op.call { callee:=Callee.builtin Builtin.append,args:=#[s,x],argTypes:=#[t,t] })(i:TypeInfo)(z:Value)(d:Nat)(h:Hd)(r:eR)(L:P.underlying t=some (.slice r.e))(M:P.info? r.e=some i)(N:i.zero=some z)(O:i.size=r.size)(R:i.bytes=d)(S:z.cells.size=r.size)(T:0<r.size)(X:a.eval s=slice h.ao r.n h.cap)(y:aB f h r)(C:Addr)(m c:Nat)(b:List Value)(Y:a.eval x=slice (some C) m c)(W:b.length=m*r.size)(U:∀j u,b[j]?=some u->f.cell? (C.add j)=some u)(E:∀u∈b,u.oneCell'=true)(J:r.n+m<=maxLen)(K:(r.n+m)*d<=140737488355328)(I:∀k q,aB q k ⟨r.e,r.size,r.n+m,r.xs++b⟩->f.grownBy q h.XS->(k.XS=h.XS∨k.XS=some f.heap.size)->wpList P A Q p (a.put o.dst (slice k.ao (r.n+m) k.cap)) q) :
  wpList P A Q (o :: p) a f:=by
 refine wpList_append_own_at f V s x t F 0 r.e i z r.size d L M N O R S T (slice h.ao r.n h.cap) r.n r.xs X y C m c b Y W U E J K (Uc _) ?_;intro v' q G H Z B;rw[BH]at H B;rcases G.2 with ⟨v,w⟩ | ⟨g,l,D,v,w⟩
 ·have:=I ⟨none,0⟩ q ⟨G.1,TH ⟨by rw[w],w⟩⟩ H (by rw[v]at B;exact B);rw[v];rw[w]at this;exact this
 ·have:=I ⟨some ⟨g,0,none⟩,l⟩ q ⟨G.1,TE ⟨g,l,D,rfl,w⟩⟩ H (by rw[v]at B;exact B);rw[v];exact this
def AY(vs:Xt)(bs:List Xt)(x:Xs):Xt:=match mF vs x with | none=>[x] | some i=>bs.getD i []
def jI(vs:Xt)(bs:List Xt):Xt->Xt->Xt
 | [],acc=>acc
 | x :: r,acc=>if acc.length<=32 then jI vs bs r (acc++AY vs bs x) else acc
def mH(vs:Xt)(bs:List Xt)(sy:Xt):Xt:=jI vs bs sy []
theorem Qe(c:n<i.length)(b:H.length<=32):jI D a (i.drop n) H=jI D a (i.drop (n+1)) (H++AY D a i[n]):=by
 rw[TV c,jI,Tr b]
theorem KR(b:¬H.length<=32):jI D a i H=H:=by
 cases i with
 | nil=>rfl
 | cons x r=>rw[jI,Tp b]
theorem NU(b:¬n<i.length):jI D a (i.drop n) H=H:=by
 rw[US (by omega)];rfl
theorem Mr(c:1<=n)(h:∀b∈a,b.length<=n):(AY D a T).length<=n:=by
 unfold AY;split
 ·simpa using c
 ·next i _ =>
  rw[To];cases e:a[i]? with
  | none=>simp
  | some b=>simpa using h b (U0 e)
theorem Gh(f:1<=n)(h:∀b∈a,b.length<=n)(e c:Xt)(d:c.length<=32+n):(jI D a e c).length<=32+n:=by
 induction e generalizing c with
 | nil=>exact d
 | cons x r g =>
  rw[jI];split
  ·have:=Mr D a x n f h;exact g _ (by simp;omega)
  ·exact d
theorem KQ(d:1<=n)(h:∀b∈a,b.length<=n)(c:Xt):(mH D a c).length<=32+n:=Gh D a n d h c [] (by simp)
theorem Lb:(⟨(aE i).e,(aE i).size,(aE i).n+H.length,(aE i).xs++dL H⟩:eR)=aE (i++H):=by simp[aE,dL]
theorem kZ.cells{d:Addr}(v:kZ y N S)(e:N.ao=some d):∀j u,(dL S)[j]?=some u->y.cell? (d.add j)=some u:=by
 intro j u i;rcases v with rfl | ⟨g,a,k,t,f,l,m,-⟩
 ·simp[dL]at i
 ·rw[e]at f;cases f
  have b:(S[j]?).map string=some u:=by simpa [dL] using i
  cases c:S[j]? with
  | none=>rw[c]at b;cases b
  | some x =>
   rw[c]at b;cases b;have:(⟨g,a,none⟩:Addr).add j=⟨g,a+j,none⟩:=by
    simp only[Addr.add];split
    ·next n=>subst n;rfl
    ·rfl
   rw[this,ah l];exact m j x c
set_option maxRecDepth 100000
theorem qR(f:List Ex)(ag:Nat->Hd)(hy:Hd)(d:Xt)(B:World)(h:mX B w H f ag)(hl:H.length<=10000)(an:∀e∈f,e.xs.length<=10000)(hv:kZ B hy d)(ar:d.length<=10000) :
  Calls prog 275 #[pointer (some ⟨w,0,none⟩),slice hy.ao d.length hy.cap] B fun e w'=>∃m:Hd,
   e=returned (slice m.ao (mH H (f.map Ex.xs) d).length m.cap)/\aB w' m (aE (mH H (f.map Ex.xs) d))/\(∀x,m.XS=some x->B.heap.size<=x)/\ae [] B w':=by
 obtain⟨i0,hi,Y,Z,ac⟩:=TZ kg;obtain⟨ao,ax⟩:=hy;rcases hv with rfl | ⟨g,af,az,t,e1,e2,e3,e4,e5⟩
 ·clear ar;go_enter func275,ntmps275;go_wp2;refine VB 1 ?_;rw[VT];go_wp2;go_ret;exact⟨⟨none,0⟩,rfl,Ty _ _ _ _,by intro x v;simp[Hd.XS]at v,ae.refl _ _⟩
 simp only at e1 e4 e5;subst e1;obtain⟨R,HR⟩:∃R,Xr (R=mH H (f.map Ex.xs) d):=⟨_,rfl⟩
 rw[<-HR.o];go_enter func275,ntmps275;go_wp2
 go_loopg [5,6] d.length (fun gk sv i wr=>∃(k:Nat) (m:Hd) (a:Xt),k<=d.length/\gk=d.length-k/\i=int i64 k/\sv=slice m.ao a.length m.cap/\a.length<=10032/\Xr (R=jI H (f.map Ex.xs) (d.drop k) a)/\aB wr m (aE a)/\(∀x,m.XS=some x->B.heap.size<=x)/\ae [] B wr)
 ·exact⟨0,⟨none,0⟩,[],by omega,by omega,rfl,rfl,by simp,HR.o,Ty _ _ _ _,by intro x v;simp[Hd.XS]at v,ae.refl _ _⟩
 obtain⟨k,m,a,hk,hg,rfl,rfl,aT,r,Q,L,D⟩:=hrel;have T:=h.XE D;by_cases J:k<d.length
 ·by_cases ha:a.length<=32
  ·have al:(a.length:Int)<=32:=(by omega);have c2:wr.cell? ⟨g,af+k,none⟩=some (string d[k]):=(ah (D.get e2 (by simp)) (af+k)).trans (e3 k d[k] (Tn J));have z:Xr _:=r.o.trans (Qe H (f.map Ex.xs) d a k J ha);have N:Xr _:=(fun w1 h1=>Lg w H f ag d[k] w1 h1 (by omega));clear r e3;generalize d[k]=y at *;rcases hp:mF H y with _ | p
   ·have c:Xr (R=jI H (f.map Ex.xs) (d.drop (k+1)) (a++[y])):=(by show _=_;rw[z.o];simp[AY,hp]);have S:=Q.XJ (fun x v=>((ae.refl [] wr).alloc (.cells #[string y] 9)).block x (Q.lt v) (by simp));clear z;(go_upto_region 7 with (go_at_call 279;refine(N.o _ T).mono ?_;rintro e w3 ⟨rfl,K⟩;rw[K,hp];simp only[oD]));go_wp2_with (at_builtin;refine aL _ rfl (.tmp 27) (.tmp 32) 61 rfl i0 (string ⟨#[]⟩) 16 m (aE a) underlying61 hi Y Z ac rfl TR rfl (by exact S) ⟨_,0,none⟩ 1 1 [string y] rfl rfl ?d1 ?d2 TR ?d3 ?d4 ?_)
    case d1=>intro j u hj;match j,hj with | 0,hj=>simp at hj;subst hj;simp[Addr.add]
    case d2=>intro u X;simp at X;subst X;rfl
    case d3=>simp only[aE];unfold maxLen;omega
    case d4=>simp only[aE];omega
    intro g5 O w5 s l b;rw[dX a y]at s;have P:=D.alloc (.cells #[string y] 9);have E:=P.grown l L;have V:B.heap.size<=g5:=by
     rcases b with e | e
     ·exact L g5 e
     ·have:=P.size;simp at e this;omega
    have C:Xr ((aE a).n+1=(a++[y]).length):=ci (by simp[aE]);rw[C.o];clear l b S;go_wp2;go_roundg (d.length-(k+1))
    ·exact⟨k+1,⟨some ⟨g5,0,none⟩,O⟩,a++[y],by omega,rfl,by go_num,rfl,by simp;omega,c.o,s,by intro x v;simp[Hd.XS]at v;omega,E⟩
    omega
   ·have a1:p<H.length:=by
     have:=Us hp;simpa using this
    have a0:=h.len;have A:p<f.length:=(by omega);have c:Xr (R=jI H (f.map Ex.xs) (d.drop (k+1)) (a++f[p].xs)):=ci (by rw[z.o];simp[AY,hp,A]);have I:=T.exs f[p] (TP A);have ap:=an f[p] (TP A);obtain⟨ad,G⟩:=I.adr;have W:=I.view.cells G;obtain⟨s0,s1⟩:=T.cells;have F:aB wr (ag 1) (ii f):=T.bag.X9 1;rcases F.XP with ⟨_,h0,_⟩ | ⟨gb,av,eb,-,aS,-⟩
    ·have:f.length=0:=h0;omega
    have cb:=F.cell eb p (xx f[p]) (tT f p A);rw[eb]at s1;unfold xx at cb;rw[G]at cb;have M:Xr _:=W;clear z I G W F eb;generalize f[p]=ex at *;obtain⟨ai,q⟩:=ex;simp only at cb ap c M;(go_upto_region 8 with (go_at_call 279;refine(N.o _ T).mono ?_;rintro e w3 ⟨rfl,K⟩;rw[K,hp];simp only[oD]));go_wp2_with (at_builtin;refine uK _ rfl (.tmp 34) (.tmp 41) 61 rfl i0 (string ⟨#[]⟩) 16 m (aE a) underlying61 hi Y Z ac rfl TR rfl (by exact Q) ad q.length ai.cap (dL q) rfl (by simp[dL,aE]) M.o ?d2 ?d3 ?d4 ?_)
    case d2=>intro u X;simp[dL]at X;obtain⟨_,_,rfl⟩:=X;rfl
    case d3=>simp only[aE];unfold maxLen;omega
    case d4=>simp only[aE];omega
    intro U w5 s l b;rw[Lb a q]at s;have E:=D.grown l L;have V:∀x,U.XS=some x->B.heap.size<=x:=by
     intro x v;rcases b with e | e
     ·exact L x (e ▸ v)
     ·rw[e]at v;cases v;exact D.size
    have C:Xr ((aE a).n+q.length=(a++q).length):=ci (by simp[aE]);rw[C.o];clear l b;go_wp2;go_roundg (d.length-(k+1))
    ·exact⟨k+1,U,a++q,by omega,rfl,by go_num,rfl,by simp;omega,c.o,s,V,E⟩
    omega
  ·have al:¬(a.length:Int)<=32:=(by omega);have c:Xr (a=R):=(r.o.trans (KR _ _ _ _ ha)).symm;clear r e3;go_wp2;go_ret;exact⟨m,by rw[<-c.o];rfl,by rw[<-c.o];exact Q,L,D⟩
 ·have c:Xr (a=R):=(r.o.trans (NU _ _ _ _ _ J)).symm;clear r e3;go_wp2;go_ret;exact⟨m,by rw[<-c.o];rfl,by rw[<-c.o];exact Q,L,D⟩
def lV(s:St)(e:Xt)(S:Xt×List Xt):Int×Xt×List Xt :=
 if(s.XU==3)=true then(if zm (mH S.1 S.2 s.Xz) e=true then(0,S) else(8,S))
 else match e with
  | []=>(7,S)
  | x :: r=>if(x.toList==(jf s).toList)=true then(0,S.1++[aN s],S.2++[r]) else(7,S)
structure sA(w:World)(b:Nat)(H:Nat->Hd)(h:Hd)(l:Xt):Prop where
 view:kZ w h l
 far:∀x,h.XS=some x->x<w.heap.size/\x≠b/\¬ik H x
theorem sA.XE(f:sA y x k N S)(b:ae [] y I):sA I x k N S :=
 ⟨f.view.XE b,fun c a=>⟨Tw (f.far c a).1 b.size,(f.far c a).2⟩⟩
def jK(g off cap:Nat)(r:Xt):Ex:=⟨⟨if cap=1 then some ⟨g,off,none⟩ else some ⟨g,off+1,none⟩,cap-1⟩,r⟩
theorem Oi:(jK o L w H).hd.XS=some o:=by unfold jK Hd.XS;simp only;split <;> rfl
theorem Qs{g a:Nat}{s:Xs}(h:sA y x k ⟨some ⟨g,a,none⟩,n⟩ (s :: S)):Cu y x k (jK g a n S):=by
 have q:(jK g a n S).hd.XS=some g:=by unfold jK Hd.XS;simp only;split <;> rfl
 refine⟨?_,?_,fun d b=>h.far d (by rw[q]at b;exact b)⟩
 ·by_cases e:S=[]
  ·subst e;exact TH rfl
  ·rcases h.view with r | ⟨u,f,c,t,i,l,m,o,p⟩
   ·cases r
   ·cases i
    have v:0<S.length:=Wi.2 e;simp only[List.length_cons]at o;refine TE ⟨g,a+1,c,t,by simp only[jK];rw[Tp (by omega)],l,fun j d b=>?_,by simp only[jK];omega,by simp only[jK]at p ⊢;omega⟩;have:=m (j+1) d (by simpa [jK] using b);rw[show a+1+j=a+(j+1) by omega];exact this
 ·unfold jK;simp only;split
  ·exact⟨_,rfl⟩
  ·exact⟨_,rfl⟩
theorem Pd(a:List Ex)(l:Nat->Hd)(s:St)(E G O:Hd)(D:Xt)(i:World)(h:mX i w H a l)(hl:H.length<=9999)(ad:∀e∈a,e.xs.length<=10000)(hs:kZ i E s.Xz)(a0:s.Xz.length<=10000)(hx:sA i w l O D)(bo:D.length<=10000) :
  Calls prog 273 #[pointer (some ⟨w,0,none⟩),fS s E G,slice O.ao D.length O.cap] i fun e d=>∃(S:List Ex) (H':Nat->Hd),
   e=returned (int i64 (lV s D (H,a.map Ex.xs)).1)/\mX d w (lV s D (H,a.map Ex.xs)).2.1 S H'/\S.map Ex.xs=(lV s D (H,a.map Ex.xs)).2.2/\aD w i l d H'/\∀e∈S,e∈a∨e.hd.XS=O.XS:=by
 obtain⟨i0,hi,a5,a6,a7⟩:=TZ kg;obtain⟨i1,az,a2,a3,a4⟩:=TZ M9;have bk:a.length<=9999:=by have:=h.len;omega
 unfold fS;obtain⟨W,hW⟩:∃W,W=i.alloc (.cells #[int i64 s.XU,string s.XV,slice E.ao s.Xz.length E.cap,slice G.ao s.XK.length G.cap,string s.XY.XZ,int i64 s.XY.X0,int i64 s.XY.X3,int i64 s.til] 158):=⟨_,rfl⟩
 have K:=fI hW.symm;have B:=f9 hW.symm;have HW:Xr _:=hW.symm;obtain⟨u0,u1,u2,u3,u4,u5,u6,u7⟩:=wt B;have V:=h.XE K;have M:=hs.XE K;have ar:=hx.XE K;clear hW;cases Q:(s.XU==3)
 ·rcases D with _ | ⟨x,r⟩
  ·have v:Xr (lV s [] (H,a.map Ex.xs)=(7,H,a.map Ex.xs)):=(by show _=_;simp[lV,Q]);clear u1 u2 u3 u4 u5 u6 u7;go_enter func273,ntmps273;(go_upto_region 1 with fail);rw[HW.o];(go_upto_region 5 with fail);go_quiet (fail);go_wp2;go_ret;exact⟨a,l,au (by rw[v.o]),by rw[v.o];exact V.XE (bR.drewN _),by rw[v.o],(aD.refl _ _ _).XE (K.drewN _),fun _ q=>TH q⟩
  ·obtain⟨bf,b⟩:=O;rcases ar.view with ai | ⟨g,c,bg,t,e1,e2,e3,e4,e5⟩
   ·cases ai
   simp only at e1 e4 e5;subst e1;have aS:¬((r.length:Int)+1==0)=true:=by simp;omega
   have HN:Xr ((x :: r).length=r.length+1):=rfl;have bl:(0:Int)<(r.length:Int)+1:=(by omega);have bd:(1:Int)<=(r.length:Int)+1:=(by omega);rw[HN.o]at *;have cx:W.cell? ⟨g,c,none⟩=some (string x):=by have:=(ah e2 c).trans (by simpa using e3 0 x rfl);exact this
   have TC:=Ce s E G;unfold fS at TC;have Z:Xr _:=TC;have HC:Xr (∀d,ae [] W.drew d->d.cell? ⟨g,c,none⟩=some (string x)/\d.cell? ⟨i.heap.size,0,none⟩=some (int i64 s.XU)/\d.cell? ⟨i.heap.size,1,none⟩=some (string s.XV)/\d.cell? ⟨i.heap.size,2,none⟩=some (slice E.ao s.Xz.length E.cap)/\d.cell? ⟨i.heap.size,3,none⟩=some (slice G.ao s.XK.length G.cap)/\d.cell? ⟨i.heap.size,4,none⟩=some (string s.XY.XZ)/\d.cell? ⟨i.heap.size,5,none⟩=some (int i64 s.XY.X0)/\d.cell? ⟨i.heap.size,6,none⟩=some (int i64 s.XY.X3)/\d.cell? ⟨i.heap.size,7,none⟩=some (int i64 s.til)):=by
    intro d k;have q:=k.get (show W.drew.heap[i.heap.size]?=_ from B) (by simp);have q2:=k.get (show W.drew.heap[g]?=_ from e2) (by simp);refine⟨(ah q2 c).trans (by simpa using e3 0 x rfl),?_,?_,?_,?_,?_,?_,?_,?_⟩ <;> (rw[ah q];rfl)
   clear TC e3;go_enter func273,ntmps273;(go_upto_region 1 with fail);rw[HW.o];(go_upto_region 5 with fail);cases hc:(x.toList==(jf s).toList)
   ·have v:Xr (lV s (x :: r) (H,a.map Ex.xs)=(7,H,a.map Ex.xs)):=(by show _=_;simp[lV,Q,hc]);go_region_held3 (fun d=>d.cell? ⟨g,c,none⟩=some (string x)/\d.cell? ⟨i.heap.size,0,none⟩=some (int i64 s.XU)/\d.cell? ⟨i.heap.size,1,none⟩=some (string s.XV)/\d.cell? ⟨i.heap.size,2,none⟩=some (slice E.ao s.Xz.length E.cap)/\d.cell? ⟨i.heap.size,3,none⟩=some (slice G.ao s.XK.length G.cap)/\d.cell? ⟨i.heap.size,4,none⟩=some (string s.XY.XZ)/\d.cell? ⟨i.heap.size,5,none⟩=some (int i64 s.XY.X0)/\d.cell? ⟨i.heap.size,6,none⟩=some (int i64 s.XY.X3)/\d.cell? ⟨i.heap.size,7,none⟩=some (int i64 s.til)) (go_keep) (first | (go_at_call 192;refine(Z.o _ (by exact M.XE bR.drew) (by omega)).mono ?_;rintro e U ⟨rfl,F⟩;obtain⟨x0,x1,x2,x3,x4,x5,x6,x7,x8⟩:=HC.o U F))
    all_goals
     clear u0 u1 u2 u3 u4 u5 u6 u7 cx;go_wp2;go_ret;exact⟨a,l,au (by rw[v.o]),by rw[v.o];exact V.XE ((bR.drew).trans F),by rw[v.o],(aD.refl _ _ _).XE (K.drew.trans F),fun _ q=>TH q⟩
   ·have v:Xr (lV s (x :: r) (H,a.map Ex.xs)=(0,H++[aN s],a.map Ex.xs++[r])):=(by show _=_;simp[lV,Q,hc]);have VA:=pV s E G;unfold fS at VA;have av:Xr _:=VA;clear VA;go_region_held3 (fun d=>d.cell? ⟨g,c,none⟩=some (string x)/\d.cell? ⟨i.heap.size,0,none⟩=some (int i64 s.XU)/\d.cell? ⟨i.heap.size,1,none⟩=some (string s.XV)/\d.cell? ⟨i.heap.size,2,none⟩=some (slice E.ao s.Xz.length E.cap)/\d.cell? ⟨i.heap.size,3,none⟩=some (slice G.ao s.XK.length G.cap)/\d.cell? ⟨i.heap.size,4,none⟩=some (string s.XY.XZ)/\d.cell? ⟨i.heap.size,5,none⟩=some (int i64 s.XY.X0)/\d.cell? ⟨i.heap.size,6,none⟩=some (int i64 s.XY.X3)/\d.cell? ⟨i.heap.size,7,none⟩=some (int i64 s.til)) (go_keep) (first | (go_at_call 192;refine(Z.o _ (by exact M.XE bR.drew) (by omega)).mono ?_;rintro e U ⟨rfl,F⟩;obtain⟨x0,x1,x2,x3,x4,x5,x6,x7,x8⟩:=HC.o U F))
    all_goals
     have ac:=V.XE ((bR.drew).trans F);obtain⟨m0,m1⟩:=ac.cells;have a1:=M.XE ((bR.drew).trans F);clear u0 u1 u2 u3 u4 u5 u6 u7 cx x0;(go_upto_region 7 with fail);have s4:Xr ((aE H).n+1<=maxLen):=(by show _<=_;simp only[aE];unfold maxLen;omega);have s5:Xr (((aE H).n+1)*16<=140737488355328):=(by show _<=_;simp only[aE];omega);have s3:Xr (∀u∈([string (aN s)]:List Value),u.oneCell'=true):=(by intro u hu;simp at hu;subst hu;rfl);have ax:Xr (∀L,ae [] U.drew L->mX L w H a l/\mX (L.alloc (.cells #[string (aN s)] 9)) w H a l/\∀j u,([string (aN s)]:List Value)[j]?=some u->(L.alloc (.cells #[string (aN s)] 9)).cell? ((⟨L.heap.size,0,none⟩:Addr).add j)=some u):=by
      intro L k;have q:=ac.XE (((ae.refl [] U).drew).trans k);refine⟨q,q.XE (bR.alloc _),fun j u I=>?_⟩;have Q:(L.alloc (.cells #[string (aN s)] 9)).heap[L.heap.size]?=some (.cells #[string (aN s)] 9):=Tu _ _;rw[bY,ah Q];simpa using I
     have aT:Xr (∀j,j≠0->qU (H++[aN s]) a j=qU H a j):=by
      intro j I
      match j,I with
      | 0,I=>exact absurd rfl I
      | 1,_=>rfl
      | m+2,_=>rfl
     go_region_law (first | (refine dd rfl (.tmp 32) (.tmp 35) 61 rfl i0 (string ⟨#[]⟩) 16 (l 0) (aE H) underlying61 hi a5 a6 a7 rfl TR (by simp[Act.eval] <;> rfl) (y1.bag.X9 0) ⟨_,0,none⟩ 1 1 [string (aN s)] (by simp[Act.eval] <;> rfl) rfl y2 s3.o TR s4.o s5.o ?_;intro J f w5 an ag C;obtain⟨k5,f5,HP⟩:=bG.app y1.bag (cs':=pR (H++[aN s]) a (iJ l 0 ⟨some ⟨J,0,none⟩,f⟩)) (rows':=qU (H++[aN s]) a) 0 0 J f ((aE H).n+1) _ an (dX H (aN s)) ag (by simpa using C) aT.o (slice (l 0).ao H.length (l 0).cap) rfl (by simp[pR,iJ,aE]);clear an ag C) | (go_simp;go_at_call 190;refine(av.o _ (by exact a1.XE bR.drew) (by omega)).mono ?_;rintro e L ⟨rfl,k4⟩;obtain⟨y0,y1,y2⟩:=ax.o L k4;obtain⟨n0,n1⟩:=y0.cells;obtain⟨p0,p1⟩:=y1.cells))
     all_goals
      generalize hX:w5.setCell ⟨w,0,none⟩ (slice (some ⟨J,0,none⟩) ((aE H).n+1) f)=X at HP ⊢;have T5:Xr (aD w i l X (iJ l 0 ⟨some ⟨J,0,none⟩,f⟩)):=(((HP.o.2.first (bR.alloc _)).first (((ae.refl [] U).drew).trans k4)).first (K.drew.trans F));have D5:=HP.o.1;have q1:=D5.cell 1;have bj:=D5.lt;simp only[pR,List.getElem?_cons_succ,List.getElem?_cons_zero]at q1;clear hX k5 f5 n0 n1 p0 p1 y0 y1 y2 m0 m1 x1 x2 x3 x4 x5 x6 x7 x8;(go_upto_region 8 with fail);have hD:Xr (bG (X.alloc (.cells #[xx (jK g c b r)] 61)).drew w 343 (pR (H++[aN s]) a (iJ l 0 ⟨some ⟨J,0,none⟩,f⟩)) (qU (H++[aN s]) a) (iJ l 0 ⟨some ⟨J,0,none⟩,f⟩)):=D5.XE ((ae.refl [] X).alloc _).drew;have s2:Xr (∀j u,([xx (jK g c b r)]:List Value)[j]?=some u->(X.alloc (.cells #[xx (jK g c b r)] 61)).drew.cell? ((⟨X.heap.size,0,none⟩:Addr).add j)=some u):=by
       intro j u I;have Q:(X.alloc (.cells #[xx (jK g c b r)] 61)).drew.heap[X.heap.size]?=some (.cells #[xx (jK g c b r)] 61):=Tu _ _;rw[bY,ah Q];simpa using I
      have T:Xr (∀u∈([xx (jK g c b r)]:List Value),u.oneCell'=true):=(by intro u hu;simp at hu;subst hu;rfl);have ba:Xr ((ii a).n+1<=maxLen):=(by show _<=_;simp only[ii];unfold maxLen;omega);have bc:Xr (((ii a).n+1)*24<=140737488355328):=(by show _<=_;simp only[ii];omega);have al:Xr (∀j,j≠1->qU (H++[aN s]) (a++[jK g c b r]) j=qU (H++[aN s]) a j):=by
       intro j I
       match j,I with
       | 0,_=>rfl
       | 1,I=>exact absurd rfl I
       | m+2,_=>rfl
      unfold xx at hD s2 T;simp only[jK]at hD s2 T;go_region_law (refine dd rfl (.tmp 43) (.tmp 46) 218 rfl i1 (slice none 0 0) 24 (iJ l 0 ⟨some ⟨J,0,none⟩,f⟩ 1) (ii a) underlying218 az a2 a3 a4 rfl TR (by simp[Act.eval] <;> rfl) (hD.o.X9 1) ⟨X.heap.size,0,none⟩ 1 1 _ (by simp[Act.eval]) rfl s2.o T.o TR ba.o bc.o ?_;intro g6 N w6 ap P p;obtain⟨k6,f6,Y⟩:=bG.app hD.o (cs':=pR (H++[aN s]) (a++[jK g c b r]) (iJ (iJ l 0 ⟨some ⟨J,0,none⟩,f⟩) 1 ⟨some ⟨g6,0,none⟩,N⟩)) (rows':=qU (H++[aN s]) (a++[jK g c b r])) 1 1 g6 N ((ii a).n+1) _ ap (vv a (jK g c b r)) P (by simpa using p) al.o (slice (iJ l 0 ⟨some ⟨J,0,none⟩,f⟩ 1).ao a.length (iJ l 0 ⟨some ⟨J,0,none⟩,f⟩ 1).cap) rfl (by simp[pR,iJ,ii]);clear ap P p)
      all_goals
       have T6:Xr _:=T5.o.trans (Y.o.2.first (bR.alloc _).drew);clear q1 k6 f6;generalize (if b=1 then some (⟨g,c,none⟩:Addr) else some ⟨g,c+1,none⟩)=AE;go_wp2;go_ret;refine⟨a++[jK g c b r],_,au (by rw[v.o]),?_,by rw[v.o];simp[jK],T6.o,fun e q=>by rw[Ug]at q;rcases q with q | q;exact TH q;simp at q;subst q;exact TE (Oi g c b r)⟩;rw[v.o];refine⟨Y.o.1,by simp[h.len],?_⟩;intro e A;rw[Ug]at A;rcases A with A | A
       ·exact(h.exs e A).turned T6.o
       ·simp at A;subst A;exact(Qs b hx).turned T6.o
 ·go_enter func273,ntmps273;go_upto_region 1 with fail
  rw[HW.o];have RA:=qR w H a l E s.Xz W V (by omega) ad M a0;have RL:=KQ H (a.map Ex.xs) 10000 (by omega) (by intro y hy;obtain⟨e,O,rfl⟩:=UG.1 hy;exact ad e O) s.Xz;have v:Xr (lV s D (H,a.map Ex.xs)=if zm (mH H (a.map Ex.xs) s.Xz) D=true then(0,H,a.map Ex.xs) else(8,H,a.map Ex.xs)):=ci (by simp[lV,Q]);generalize mH H (a.map Ex.xs) s.Xz=R at *;clear u1 u3 u4 u5 u6 u7;go_wp2_with fail;refine RA.mono ?_;rintro e w2 ⟨hd,rfl,ho,hn,k2⟩;go_wp2_with fail;refine(zN hd O R D w2 ho.view (ar.view.XE k2) (by omega) (by omega)).mono ?_;rintro e U ⟨rfl,F⟩;cases af:zm R D
  ·have z:Xr (lV s D (H,a.map Ex.xs)=(8,H,a.map Ex.xs)):=(by show _=_;rw[v.o,af];simp);clear v RA;go_wp2;go_ret;exact⟨a,l,au (by rw[z.o]),by rw[z.o];exact(V.XE k2).XE F,by rw[z.o],(aD.refl _ _ _).XE ((K.trans k2).trans F),fun _ q=>TH q⟩
  ·have z:Xr (lV s D (H,a.map Ex.xs)=(0,H,a.map Ex.xs)):=(by show _=_;rw[v.o,af];simp);clear v RA;go_wp2;go_ret;exact⟨a,l,au (by rw[z.o]),by rw[z.o];exact(V.XE k2).XE F,by rw[z.o],(aD.refl _ _ _).XE ((K.trans k2).trans F),fun _ q=>TH q⟩
end Go.Proofs.YtnbhnocdhbcbcaaGreat
