import Derived.BigQuiet
import Derived.Maps.AppendAt
import Derived.Test.YtnbhnocdhbcbcaaGreatK08
namespace Go.Proofs.YtnbhnocdhbcbcaaGreat
open Go.RowKit Tryz
open Value IntKind Ending
set_option maxHeartbeats 0
variable{x:Nat}{y I:World}{N:Hd}{S M:Xt}{k:Nat->Hd}(o L w:Nat)(b:List St)(d:Nat->Hd)(D:Xt)(a:List Xt)(i:Xt)(f:World)(H:Xt)(T:Xs)(n:Nat)(l:Fs)
def zB(p:Pl):Prop:=(-1000000000<=p.X0/\p.X0<=1000000000)/\LU p
structure Gd(d:Db)(m:Nat):Prop where
 bnd:oG d m
 now:kU d.XJ<=m/\∀x∈d.XJ,zB x.2
 XP:∀s∈d.XP,0<s.Xy.length/\s.Xy.length<=m/\s.XJ.length<=m/\kU s.XJ<=m/\(∀x∈s.XJ,zB x.2)/\zB s.XX
theorem Gp(l:List (Xs×Pl))(x:Xs×Pl):kU (l++[x])=kU l+x.1.size:=by
 simp[kU]
theorem FF{l:List St}{s:St}(h:s∈kD l x):∃a∈l,s.Xy=a.Xy/\s.XJ=a.XJ/\s.XX=a.XX:=by
 unfold kD gZ at h;rw[List.mem_mapIdx]at h;obtain⟨i,b,rfl⟩:=h;refine⟨l[i],TO b,?_⟩;split
 ·unfold lJ;split <;> exact⟨rfl,rfl,rfl⟩
 ·exact⟨rfl,rfl,rfl⟩
theorem Gd.take{d:Db}(h:Gd d x)(i:Xs)(p:Pl)(n:Nat)(B:i.size<=n)(z:1<=n)(o:zB p):Gd (aZ d i p).2 (x+n):=by
 have u:=(h.bnd.take i p).mono (m':=x+n) (by omega);have A:=h.bnd.XJ;have v:=h.bnd.XA;refine⟨u,?_,?_⟩
 ·rcases GD d i p with e | e | e
  ·rw[e];exact⟨by have:=h.now.1;omega,h.now.2⟩
  ·rw[e];exact⟨by simp[kU],by simp⟩
  ·rw[e];refine⟨by rw[Gp];have:=h.now.1;simp only;omega,fun y g=>?_⟩;rcases Uf.1 g with g | g
   ·exact h.now.2 y g
   ·rw[TH.1 g];exact o
 ·rcases Ol d i p with e | ⟨y,_,e⟩ | ⟨e,f⟩
  ·rw[e];intro s a;obtain⟨b,k,l,m,c⟩:=h.XP s a;exact⟨b,by omega,by omega,by omega,c⟩
  ·rw[e];intro s a;obtain⟨w,j,q,r,t⟩:=FF a;obtain⟨b,k,l,m,c⟩:=h.XP w j;rw[q,r,t];exact⟨b,by omega,by omega,by omega,c⟩
  ·rw[e];intro s a;rcases Uf.1 a with a | a
   ·obtain⟨b,k,l,m,c⟩:=h.XP s a;exact⟨b,by omega,by omega,by omega,c⟩
   ·rw[TH.1 a];exact⟨f,by simp only;omega,by simp only;omega,by have:=h.now.1;simp only;omega,h.now.2,o⟩
theorem Gd.empty:Gd fS 0:=⟨oG.empty,by simp[fS,kU],by simp[fS]⟩
theorem yD(c:n<=T.size):(bQ T n).1.text.size<=(bQ T n).2-n/\(bQ T n).1.pos<=T.size:=by
 have a:=BY T n c;have b:=tu T (skip T n) a.2;unfold bQ;simp only;split
 ·exact⟨by simp[ByteArray.size],b.2⟩
 ·split
  ·exact⟨by simp[ByteArray.size],by simp only;omega⟩
  ·refine⟨?_,by simp only;omega⟩;simp only[ByteArray.size_extract];omega
theorem xl(k:Nat)(a:k<=T.size):(bh T k).1.pos<=T.size:=by
 unfold bh;generalize T.size-k+1=f
 induction f generalizing k with
 | zero=>simp[ci,a]
 | succ f c =>
  have b:=(yD T k a).2;have d:=ik T k a;rw[ci];split
  ·split
   ·exact b
   ·exact c (bQ T k).2 d.2.1
  ·split
   ·exact b
   ·exact b
theorem FN(k:Nat)(a:k<=T.size):(aM (aC T k).1=true->(aC T k).1.text.size<=(aC T k).2-k)/\(aC T k).1.pos<=T.size:=by
 unfold aC;generalize T.size-k+1=f
 induction f generalizing k with
 | zero=>exact⟨fun h=>by simp[dY,aM]at h,by simp[dY,a]⟩
 | succ f i =>
  have c:=yD T k a;have b:=ik T k a;rw[dY];split
  ·have d:=jE T (bQ T k).2 b.2.1;have e:=xl T (bQ T k).2 b.2.1;split
   ·have:=i _ d.2;exact⟨fun h=>by have:=this.1 h;omega,this.2⟩
   ·next g=>exact⟨fun h=>absurd h g,e⟩
  ·exact⟨fun _=>c.1,c.2⟩
theorem MC(s:Xs)(p:Nat)(c:p<=1024):zB (lp T s p):=by
 have a:=Bd s p;have b:=Bw s p;unfold zB LU lp;simp only;omega
def OK(fs:Fs)(bg:List Bool)(m:Nat)(r:G6):Prop :=
 r.2.1.length=4/\eR fs r.2.1<=eR fs bg/\∃m',Gd r.2.2 m'/\m'+eR fs r.2.1<=m+eR fs bg
theorem JH(a:∀j,j<l.length->(ak l j).size<=1024)(x:Nat):(ak l x).size<=1024:=by
 rcases Xl x l.length with h | h
 ·exact a x h
 ·have:(ak l x).size=0:=by unfold ak;rw[Tn,Um h];rfl
  omega
theorem Lm(p:∀j,j<l.length->(ak l j).size<=1024)(f:Nat)(s:∀j a d m,a.length=4->Gd d m->OK l a m (cU l f j a d))(x k:Nat)(a:List Bool)(d:Db)(m:Nat)(q:k<=(ak l x).size)(o:a.length=4)(i:Gd d m)(r:aM (aC (ak l x) k).1=true) :
  OK l a (m+((aC (ak l x) k).2-k)) (hZ l f x k a d).1/\(aC (ak l x) k).2<=(hZ l f x k a d).2/\(hZ l f x k a d).2<=(ak l x).size:=by
 have c:=go (ak l x) k q;have w:=c.2.2 r;have y:=FN (ak l x) k q;have e:=JH l p x;unfold hZ kp;split
 ·unfold od;split
  ·exact⟨⟨o,Tp _,m,i,by simp only;omega⟩,Tp _,c.2.1⟩
  ·next j C b =>
   have g:=s j a d m o i;refine⟨⟨g.1,g.2.1,?_⟩,?_⟩
   ·obtain⟨v,z,B⟩:=g.2.2;exact⟨v,z,by simp only;omega⟩
   ·unfold sO at b;have u:=go (ak l x) (aC (ak l x) k).2 c.2.1;have A:=go (ak l x) (aC (ak l x) (aC (ak l x) k).2).2 u.2.1
    repeat' split at b
    all_goals first | (cases b;done) | skip
    injection b with b
    injection b with t n
    subst n;omega
 ·refine⟨⟨o,Tp _,m+((aC (ak l x) k).2-k),i.take _ _ _ (y.1 r) (by omega) (MC _ _ _ (by omega)),by simp only;omega⟩,Tp _,c.2.1⟩
theorem Ph(q:∀j,j<l.length->(ak l j).size<=1024)(f:Nat):(∀x k a d m,k<=(ak l x).size->a.length=4->Gd d m->(bH l f x k a d).2.1.length=4/\eR l (bH l f x k a d).2.1<=eR l a/\∃c,Gd (bH l f x k a d).2.2 c/\c+eR l (bH l f x k a d).2.1<=m+((ak l x).size-k)+eR l a) /\
  (∀j a d m,a.length=4->Gd d m->OK l a m (cU l f j a d)):=by
 have b:∀f,(∀x k a d m,k<=(ak l x).size->a.length=4->Gd d m->(bH l f x k a d).2.1.length=4/\eR l (bH l f x k a d).2.1<=eR l a/\∃c,Gd (bH l f x k a d).2.2 c/\c+eR l (bH l f x k a d).2.1<=m+((ak l x).size-k)+eR l a) ->
   (∀j a d m,a.length=4->Gd d m->OK l a m (cU l f j a d)):=by
  intro f h j a d m e g;unfold cU;split
  ·exact⟨e,Tp _,m,g,Tp _⟩
  ·next y =>
   have o:a.getD j true=false:=(by simpa using y);have G:=xV l a j e o;have:=h j 0 (a.set j true) d m (Ub _) (by simpa using e) g;refine⟨this.1,by omega,?_⟩;obtain⟨c,A,I⟩:=this.2.2;exact⟨c,A,by omega⟩
 induction f with
 | zero =>
  have r:∀x k a d m,k<=(ak l x).size->a.length=4->Gd d m->(bH l 0 x k a d).2.1.length=4/\eR l (bH l 0 x k a d).2.1<=eR l a/\∃c,Gd (bH l 0 x k a d).2.2 c/\c+eR l (bH l 0 x k a d).2.1<=m+((ak l x).size-k)+eR l a:=by
   intro x k a d m p e g;exact⟨e,Tp _,m,g,by simp only[bH];omega⟩
  exact⟨r,b 0 r⟩
 | succ f t =>
  have s:∀x k a d m,k<=(ak l x).size->a.length=4->Gd d m->(bH l (f+1) x k a d).2.1.length=4/\eR l (bH l (f+1) x k a d).2.1<=eR l a/\∃c,Gd (bH l (f+1) x k a d).2.2 c/\c+eR l (bH l (f+1) x k a d).2.1<=m+((ak l x).size-k)+eR l a:=by
   intro x k a d m p e g;cases n:aM (aC (ak l x) k).1 with
   | true =>
    have H:=go (ak l x) k p;have F:=Lm l q f t.2 x k a d m p e g n;obtain⟨⟨v,D,u,w,L⟩,M,E⟩:=F;cases i:((hZ l f x k a d).1.1.1==0) with
    | true =>
     rw[zT l f x k a d n i];obtain⟨B,J,z,C,K⟩:=t.1 x (hZ l f x k a d).2 (hZ l f x k a d).1.2.1 (hZ l f x k a d).1.2.2 u E v w;exact⟨B,by omega,z,C,by omega⟩
    | false =>
     rw[pC l f x k a d n i];exact⟨v,D,u,w,by omega⟩
   | false =>
    by_cases i:(aC (ak l x) k).1.XX=true/\lL d=false
    ·rw[Bl l f x k a d n i.1 i.2];exact⟨e,Tp _,m,g,by simp only;omega⟩
    ·rw[xI l f x k a d n i];exact⟨e,Tp _,m,g,by simp only;omega⟩
  exact⟨s,b (f+1) s⟩
def RZ(l:List St):Prop:=∀s∈l,LU s.XX/\∀x∈s.XJ,LU x.2
structure SA(l:List St):Prop where
 ok:jU l
 prf:∀i (hi:i<l.length),rW l[i]
 lns:RZ l
theorem uo(c:∀j,j<l.length->(ak l j).size<=1024)(k:Nat):SA (bE l k).2.2.XP:=by
 obtain⟨_,_,m,a,o⟩:=(Ph l c 5000).2 k Hz fS 0 rfl Gd.empty;have g:=BA l c Hz;have f:m<=4104:=by omega
 have n:=a.bnd.XP;unfold bE;refine⟨⟨by omega,fun i b=>?_,fun i b=>?_,fun i b=>?_⟩,fun i b=>⟨?_,?_⟩,?_⟩
 ·exact(a.XP _ (TO b)).1
 ·have:=(a.XP _ (TO b)).2.1;omega
 ·have:=(a.XP _ (TO b)).2.2.1;omega
 ·have:=(a.XP _ (TO b)).2.2.2.1;omega
 ·exact fun x d=>((a.XP _ (TO b)).2.2.2.2.1 x d).1
 ·exact fun s e=>⟨(a.XP s e).2.2.2.2.2.2,fun x d=>((a.XP s e).2.2.2.2.1 x d).2⟩
def Da(f:pt):Array Value:=#[int i64 f.1,string f.2.XY,int i64 f.2.XZ,int i64 f.2.X0]
theorem jP{f:pt}(h:y.heap[x]?=some (.cells (Da f) 165)) :
  y.cell? ⟨x,0,none⟩=some (int i64 f.1)/\y.cell? ⟨x,1,none⟩=some (string f.2.XY)/\y.cell? ⟨x,2,none⟩=some (int i64 f.2.XZ)/\y.cell? ⟨x,3,none⟩=some (int i64 f.2.X0):=by
 refine⟨?_,?_,?_,?_⟩ <;> (rw[ah h];rfl)
theorem CP(s:St)(d:b.length<=10000)(e:s.XJ.length<=10000):jm ⟨(b7 b n s.XX 1 (s.XJ.drop 1) (aP b n)).2,[],[],0,false⟩ 20000:=by
 have a:=(zG b n s.XX (s.XJ.drop 1) 1 (aP b n)).2;have c:(aP b n).length<=b.length:=pD b n b.length;simp only[List.length_drop]at a;exact⟨by simp only;omega,by simp,by simp,by simp,by simp⟩
set_option maxRecDepth 100000
theorem s9(hr:fL f o L b d)(ha:w<b.length)(ok:jU b)(b5:rW b[w]) :
  Calls prog 139 #[pointer (some ⟨o,L,none⟩),int i64 w] f fun e w'=>∃hd:Hd,
   e=returned (tuple #[slice hd.ao (kO b w b[w]).1.length hd.cap,iu (kO b w b[w]).2])/\aB w' hd (gq (kO b w b[w]).1)/\(∀x,hd.XR=some x->f.heap.size<=x)/\ae [] f w':=by
 have bT:=ok.len;have cc:=ok.prfs w ha;have cp:(aP b w).length<=b.length:=pD b w b.length;obtain⟨AO,bg⟩:=bn ((d (11+2*w)).ao);obtain⟨W,hW⟩:∃W,W=f.alloc (.cells #[int i64 0,string ⟨#[]⟩,int i64 0,int i64 0] 165):=⟨_,rfl⟩
 have K:=fH hW.symm;have BF:W.heap[f.heap.size]?=some (.cells bK 165):=by rw[hW];exact Ts _ _
 have HW:Xr _:=hW.symm;clear hW;go_enter func139,ntmps139;go_upto_region 1 with fail
 rw[HW.o];go_wp2_with fail;refine(bF o L w b d _ (hr.XD K) ha).mono ?_;rintro e u ⟨rfl,U⟩;unfold fR;rw[bg.o];obtain⟨TB,ap⟩:∃TB:Array Value,TB=#[int i64 b[w].XS,string b[w].XU,slice (d (10+2*w)).ao b[w].Xy.length (d (10+2*w)).cap,slice AO b[w].XJ.length (d (11+2*w)).cap,string b[w].XX.XY,int i64 b[w].XX.XZ,int i64 b[w].XX.X0,int i64 b[w].til]:=⟨_,rfl⟩
 obtain⟨W2,F⟩:∃W2,W2=u.alloc (.cells #[int i64 b[w].XS,string b[w].XU,slice (d (10+2*w)).ao b[w].Xy.length (d (10+2*w)).cap,slice AO b[w].XJ.length (d (11+2*w)).cap,string b[w].XX.XY,int i64 b[w].XX.XZ,int i64 b[w].XX.X0,int i64 b[w].til] 158):=⟨_,rfl⟩
 have bo:Xr _:=F.symm;have K2:ae [] f W2:=by rw[F];exact(K.trans U).alloc _
 have BT:W2.heap[u.heap.size]?=some (.cells TB 158):=by rw[F,ap];exact Ts _ _
 have a7:W2.heap[f.heap.size]?=some (.cells bK 165):=by rw[F];exact(kr0.alloc _).get (U.get BF (by simp)) (by simp)
 have cq:f.heap.size<u.heap.size:=by have:=aj (U.get BF (by simp));omega
 have ct:=aj BT;have z:Xr _:=ap;clear F ap;go_upto_region 2 with fail
 rw[bo.o];clear HW bo U BF K;have ax:=K2.size;have b0:=hr.XD K2;go_wp2_with fail;refine(qD o L w b d _ b0 ha ok).mono ?_;rintro e I ⟨s,rfl,bx,bw,G⟩
 have CM:eG (I.alloc (.cells #[slice s.ao (aP b w).length s.cap,slice none 0 0,slice none 0 0,int i64 0,bool false] 279)) I.heap.size ⟨aP b w,[],[],0,false⟩ (zo s):=OV (cs:=mb ⟨aP b w,[],[],0,false⟩ (zo s)) (rows:=yq ⟨aP b w,[],[],0,false⟩) bx (by
  intro i
  match i with
  | 0=>exact Tw _ _ _ _
  | 1=>exact Tw _ _ _ _
  | m+2=>exact Tw _ _ _ _)
 have K4:ae [] f (I.alloc (.cells #[slice s.ao (aP b w).length s.cap,slice none 0 0,slice none 0 0,int i64 0,bool false] 279)):=(K2.trans G).alloc _;have ag:(I.alloc (.cells #[slice s.ao (aP b w).length s.cap,slice none 0 0,slice none 0 0,int i64 0,bool false] 279)).heap[u.heap.size]?=some (.cells TB 158):=(kr0.alloc _).get (G.get BT (by simp)) (by simp);have af:(I.alloc (.cells #[slice s.ao (aP b w).length s.cap,slice none 0 0,slice none 0 0,int i64 0,bool false] 279)).heap[f.heap.size]?=some (.cells bK 165):=(kr0.alloc _).get (G.get a7 (by simp)) (by simp);have cu:W2.heap.size<=I.heap.size:=G.size;have n:∀x,ij (zo s) x->W2.heap.size<=x:=fun x a=>bw x (PI a);obtain⟨W4,ar⟩:∃W4,W4=I.alloc (.cells #[slice s.ao (aP b w).length s.cap,slice none 0 0,slice none 0 0,int i64 0,bool false] 279):=⟨_,rfl⟩
 rw[<-ar]at CM K4 ag af;have br:Xr _:=ar.symm;clear ar bx bw G BT a7;go_upto_region 3 with fail
 rw[br.o];clear br;have b4:=CP b w b[w] bT cc;have bv:=(zG b w b[w].XX (b[w].XJ.drop 1) 1 (aP b w)).1;have R:=zv I.heap.size ⟨aP b w,[],[],0,false⟩ (zo s) o L w b d f W4 CM hr K4 ha ok (by simp only;omega) (by omega) (fun x a=>TE ax (n x a));have bj:Xr (zK b w b[w]=Cr (b7 b w b[w].XX 1 (b[w].XJ.drop 1) (aP b w)).1.2 (b[w].XJ.drop (b7 b w b[w].XX 1 (b[w].XJ.drop 1) (aP b w)).1.1) ⟨(b7 b w b[w].XX 1 (b[w].XJ.drop 1) (aP b w)).2,[],[],0,false⟩):=rfl;simp only at R;have cl:=bG.lt CM;simp only[List.length_drop]at bv;generalize b7 b w b[w].XX 1 (b[w].XJ.drop 1) (aP b w)=BL at *;obtain⟨⟨nx,bf,bp⟩,ns⟩:=BL;simp only at R bj b4 bv;go_wp2_with fail;refine R.mono ?_;rintro e g ⟨rfl,H5,D5,Y⟩;unfold iu
 have K5:=K4.ofP Y.1 (fun x a=>by
  rcases a with e | e
  ·omega
  ·exact TE ax (n x e))
 have n1:¬ij H5 f.heap.size:=Y.fresh _ (by omega) (fun hm=>by have:=n _ hm;omega);have n2:¬ij H5 u.heap.size:=Y.fresh _ (by omega) (fun hm=>by have:=n _ hm;omega);have nb:∀x,ij H5 x->f.heap.size<=x:=fun x a=>by
  rcases Y.2 x a with e | e
  ·exact TE ax (n x e)
  ·omega
 have bd:=Y.1.get ag (by rintro (e | e);omega;have:=n _ e;omega);have ba:=Y.1.get af (by rintro (e | e);omega;have:=n _ e;omega);have n3:¬ij H5 g.heap.size:=fun hm=>by have:=bG.inlt D5 hm;omega
 have cr:=Y.1.size;obtain⟨W6,S⟩:∃W6,W6=g.alloc (.cells #[int i64 bf,string bp.XY,int i64 bp.XZ,int i64 bp.X0] 165):=⟨_,rfl⟩
 have k6:=fH S.symm;have a6:W6.heap[g.heap.size]?=some (.cells (Da (bf,bp)) 165):=by rw[S];exact Ts _ _
 have C6:=eG.XD D5 k6;have be:=k6.get bd (by simp);have bc:=k6.get ba (by simp);have K6:=K5.trans k6;have bs:Xr _:=S.symm;clear S;go_upto_region 4 with fail
 rw[bs.o];clear bs ag af bd ba D5 Y R CM K4 K5 b0 k6;go_wp2
 go_loopg [10] (b[w].XJ.length-nx) (fun gk iv wr=>∃(i:Nat) (l:lB) (y:Nat->Hd) (k:pt) (N:Nat),i<=10001/\gk=b[w].XJ.length-i/\iv=int i64 i/\jm l N/\N+kU (b[w].XJ.drop i)<=1020000/\Xr (zK b w b[w]=Cr k (b[w].XJ.drop i) l)/\eG wr I.heap.size l y/\(∀x,ij y x->f.heap.size<=x)/\ae [] f wr /\
  wr.heap[f.heap.size]?=some (.cells bK 165)/\wr.heap[u.heap.size]?=some (.cells TB 158)/\wr.heap[g.heap.size]?=some (.cells (Da k) 165)/\¬ij y f.heap.size/\¬ij y u.heap.size/\¬ij y g.heap.size)
 ·exact⟨nx,_,H5,(bf,bp),20000,by omega,by omega,rfl,b4,by have:=Eh b[w].XJ nx;have:=b5.size;omega,bj,C6,nb,K6,bc,be,a6,n1,n2,n3⟩
 obtain⟨i,l,y,k,N,hi,hg,rfl,ad,hN,hR,hC,av,KW,B1,X,B9,n1,n2,n3⟩:=hrel;clear C6 nb K6 bc be a6;have cf:=hr.XD KW;have b1:=aj B1;have b2:=aj X;have b3:=aj B9;have E:=cf.XP.prfs w b[w] (Tm ha);obtain⟨f0,f1,f2,f3⟩:=jP B9;have yf:=am B9;obtain⟨J,M,O,P⟩:=dy B1;have yz:=am B1;have co:((i:Int) ≥ 0):=by omega
 obtain⟨az,aS,aT,a4,a5⟩:=hC.cells;by_cases H:i<b[w].XJ.length
 ·cases c:(k.1==0)
  ·have t3:wr.cell? ⟨u.heap.size,3,none⟩=some (slice AO b[w].XJ.length (d (11+2*w)).cap):=(by rw[ah X,z.o];rfl);have p:Xr (kO b w b[w]=([],k)):=cg (by unfold kO;rw[hR.o,IG _ _ _ c];simp[mY,c]);have q:(k.1 != 0)=true:=(by simp[bne,c]);clear hR E;(go_upto_region 13 with fail);go_region
   all_goals go_wp2
   all_goals exact Ty (v:=tuple #[slice none 0 0,agg #[int i64 k.1,string k.2.XY,int i64 k.2.XZ,int i64 k.2.X0]]) (by simp[results,results139,go_sem,J,M,O,P]) rfl ⟨⟨none,0⟩,by rw[p.o];rfl,by rw[p.o];exact Tw _ _ _ _,by intro x a;simp[Hd.XR]at a,(lK KW (Tp _) _ _ _ _).drew⟩
  ·obtain⟨gp,ep,ck,ca,d0,d1,d2,d3⟩:=E.word i H;obtain rfl:AO=some ⟨gp,0,none⟩:=bg.o.symm.trans ep;have t3:wr.cell? ⟨u.heap.size,3,none⟩=some (slice (some ⟨gp,0,none⟩) b[w].XJ.length (d (11+2*w)).cap):=(by rw[ah X,z.o];rfl);clear ep E;have ac:=b5.X0 b[w].XJ[i] (TO H);have ch:=Gn b[w].XJ i H;have al:Xr _:=hR.o.trans (Ro k b[w].XJ l i H c);have an:=AC b[w].XJ[i].1 b[w].XJ[i].2 ad;have TW:=Ca I.heap.size l y b[w].XJ[i].1 b[w].XJ[i].2.XY b[w].XJ[i].2.XZ b[w].XJ[i].2.X0 wr hC N ad (by omega) ac;clear hR;generalize b[w].XJ[i]=wd at *;obtain⟨t,pf,pl,pc⟩:=wd;simp only at d0 d1 d2 d3 al an TW ac ch;generalize l9 t ⟨pf,pl,pc⟩ l=Q at *;obtain⟨⟨qf,qp⟩,c2⟩:=Q;simp only at al an TW;unfold iu at TW;clear J M O P yz az aS aT a4 a5;go_wp2_with fail;refine TW.mono ?_;rintro e w7 ⟨rfl,H7,D7,Z⟩;have bz:∀x,(x=I.heap.size∨ij y x)->f.heap.size<=x:=by
    rintro x (e | e)
    ·omega
    ·exact av x e
   have K7:=KW.ofP Z.1 bz;have q1:=Z.1.get B1 (by rintro (e | e);omega;exact n1 e);have q2:=Z.1.get X (by rintro (e | e);omega;exact n2 e);have q9:=Z.1.get B9 (by rintro (e | e);omega;exact n3 e);have m1:=Z.fresh f.heap.size b1 n1;have m2:=Z.fresh u.heap.size b2 n2;have m3:=Z.fresh g.heap.size b3 n3;have y9:=am q9;have m4:∀x,ij H7 x->f.heap.size<=x:=fun x a=>by
    rcases Z.2 x a with e | e
    ·exact av x e
    ·omega
   have kk:=fun a0 a1 a2 a3=>jQ (w:=w7) (r:=g.heap.size) a0 a1 a2 a3;have ai:Xr _:=kk;have b6:Xr (∀a0 a1 a2 a3,((((w7.setCell ⟨g.heap.size,0,none⟩ a0).setCell ⟨g.heap.size,1,none⟩ a1).setCell ⟨g.heap.size,2,none⟩ a2).setCell ⟨g.heap.size,3,none⟩ a3).heap[g.heap.size]?=some (.cells #[a0,a1,a2,a3] 165)):=by
    intro a0 a1 a2 a3;rw[ab (ab (ab (ab q9 _ _) _ _) _ _)];rfl
   clear kk bz d0 d1 d2 d3 t3 f0 f1 f2 f3 yf;obtain⟨g0,g1,g2,g3⟩:=jP q9;go_wp2;go_roundg (b[w].XJ.length-(i+1))
   ·exact⟨i+1,c2,H7,(qf,qp),N+t.size,by omega,rfl,by go_num,an,by omega,al.o,bG.XQ D7 (ai.o _ _ _ _) (by simp;omega) (by intro x a;simp;rintro rfl;exact m3 a),m4,lK K7 (by omega) _ _ _ _,(ai.o _ _ _ _).get q1 (by simp;omega),(ai.o _ _ _ _).get q2 (by simp;omega),b6.o _ _ _ _,m1,m2,m3⟩
   omega
 ·have t3:wr.cell? ⟨u.heap.size,3,none⟩=some (slice AO b[w].XJ.length (d (11+2*w)).cap):=by rw[ah X,z.o];rfl
  cases c:(k.1==0)
  ·have p:Xr (kO b w b[w]=([],k)):=(by show _=_;unfold kO;rw[hR.o,IG _ _ _ c];simp[mY,c]);have q:(k.1 != 0)=true:=(by simp[bne,c]);clear hR E;(go_upto_region 13 with fail);go_region
   all_goals go_wp2
   all_goals exact Ty (v:=tuple #[slice none 0 0,agg #[int i64 k.1,string k.2.XY,int i64 k.2.XZ,int i64 k.2.X0]]) (by simp[results,results139,go_sem,J,M,O,P]) rfl ⟨⟨none,0⟩,by rw[p.o];rfl,by rw[p.o];exact Tw _ _ _ _,by intro x a;simp[Hd.XR]at a,(lK KW (Tp _) _ _ _ _).drew⟩
  ·have t4:wr.cell? ⟨u.heap.size,4,none⟩=some (string b[w].XX.XY):=(by rw[ah X,z.o];rfl);have t5:wr.cell? ⟨u.heap.size,5,none⟩=some (int i64 b[w].XX.XZ):=(by rw[ah X,z.o];rfl);have t6:wr.cell? ⟨u.heap.size,6,none⟩=some (int i64 b[w].XX.X0):=(by rw[ah X,z.o];rfl);have HE:Xr (kO b w b[w]=mY b[w].XX (cY,l)):=cg (by unfold kO;rw[hR.o,PJ _ _ _ _ H c]);have q:(k.1 != 0)=false:=(by simp[bne,c]);clear hR E;by_cases T:l.XF=0
   ·have cb:¬((l.XF:Int) > 0):=(by omega);by_cases V:l.steps.length=0
    ·have cj:((l.steps.length:Int)==0)=true:=(by simp[V]);have p:Xr (kO b w b[w]=([],(1,b[w].XX))):=cg (by rw[HE.o];simp[mY,cY,T,V]);obtain⟨D,j⟩:∃D,D=(((wr.setCell ⟨g.heap.size,0,none⟩ (int i64 1)).setCell ⟨g.heap.size,1,none⟩ (string b[w].XX.XY)).setCell ⟨g.heap.size,2,none⟩ (int i64 b[w].XX.XZ)).setCell ⟨g.heap.size,3,none⟩ (int i64 b[w].XX.X0):=⟨_,rfl⟩
     have k8:ae [g.heap.size] wr D:=(by rw[j];exact jQ _ _ _ _);have K8:ae [] f D:=(by rw[j];exact lK KW (by omega) _ _ _ _);have B:D.heap[g.heap.size]?=some (.cells (Da (1,b[w].XX)) 165):=by
      rw[j,ab (ab (ab (ab B9 _ _) _ _) _ _)];rfl
     have A:=k8.get B1 (by simp;omega);have C:Xr _:=j.symm;clear j k8;(go_upto_region 12 with fail);rw[C.o];clear C f0 f1 f2 f3 yf J M O P yz az aS aT a4 a5 t3 t4 t5 t6 c q;obtain⟨f0,f1,f2,f3⟩:=jP B;have yf:=am B;obtain⟨J,M,O,P⟩:=dy A;have yz:=am A;(go_upto_region 13 with fail);go_region
     all_goals go_wp2
     all_goals exact Ty (v:=tuple #[slice none 0 0,agg #[int i64 1,string b[w].XX.XY,int i64 b[w].XX.XZ,int i64 b[w].XX.X0]]) (by simp[results,results139,go_sem,J,M,O,P]) rfl ⟨⟨none,0⟩,by rw[p.o];rfl,by rw[p.o];exact Tw _ _ _ _,by intro x a;simp[Hd.XR]at a,(lK K8 (Tp _) _ _ _ _).drew⟩
    ·have cj:((l.steps.length:Int)==0)=false:=TT.2 (by omega);have p:Xr (kO b w b[w]=(l.steps,cY)):=cg (by rw[HE.o];simp[mY,cY,T,V]);have bl:Xr (aB wr (y 2) (gq l.steps)):=bG.X6 hC 2;have bk:Xr (∀x,(y 2).XR=some x->f.heap.size<=x/\x≠f.heap.size):=fun x a=>⟨av x ⟨2,a⟩,fun e=>n1 ⟨2,e ▸ a⟩⟩
     clear V T;go_wp2;exact Ty (v:=tuple #[slice (y 2).ao l.steps.length (y 2).cap,agg #[int i64 0,string ⟨#[]⟩,int i64 0,int i64 0]]) (by simp[results,results139,go_sem,J,M,O,P]) rfl
      ⟨y 2,by rw[p.o];rfl,by rw[p.o];exact bl.o.XI (fun x a=>(jQ (r:=f.heap.size) _ _ _ _).block x (bl.o.lt a) (by simp;exact(bk.o x a).2)),fun x a=>(bk.o x a).1,lK KW (Tp _) _ _ _ _⟩
   ·have cb:(l.XF:Int) > 0:=(by omega);have p:Xr (kO b w b[w]=([],(4,b[w].XX))):=cg (by rw[HE.o];simp[mY,cY,T]);obtain⟨D,j⟩:∃D,D=(((wr.setCell ⟨g.heap.size,0,none⟩ (int i64 4)).setCell ⟨g.heap.size,1,none⟩ (string b[w].XX.XY)).setCell ⟨g.heap.size,2,none⟩ (int i64 b[w].XX.XZ)).setCell ⟨g.heap.size,3,none⟩ (int i64 b[w].XX.X0):=⟨_,rfl⟩
    have k8:ae [g.heap.size] wr D:=(by rw[j];exact jQ _ _ _ _);have K8:ae [] f D:=(by rw[j];exact lK KW (by omega) _ _ _ _);have B:D.heap[g.heap.size]?=some (.cells (Da (4,b[w].XX)) 165):=by
     rw[j,ab (ab (ab (ab B9 _ _) _ _) _ _)];rfl
    have A:=k8.get B1 (by simp;omega);have C:Xr _:=j.symm;clear j k8;(go_upto_region 10 with fail);rw[C.o];clear C f0 f1 f2 f3 yf J M O P yz az aS aT a4 a5 t3 t4 t5 t6 c q;obtain⟨f0,f1,f2,f3⟩:=jP B;have yf:=am B;obtain⟨J,M,O,P⟩:=dy A;have yz:=am A;(go_upto_region 13 with fail);go_region
    all_goals go_wp2
    all_goals exact Ty (v:=tuple #[slice none 0 0,agg #[int i64 4,string b[w].XX.XY,int i64 b[w].XX.XZ,int i64 b[w].XX.X0]]) (by simp[results,results139,go_sem,J,M,O,P]) rfl ⟨⟨none,0⟩,by rw[p.o];rfl,by rw[p.o];exact Tw _ _ _ _,by intro x a;simp[Hd.XR]at a,(lK K8 (Tp _) _ _ _ _).drew⟩
def ve(s:St):Bool :=
 match s.XJ with
 | []=>false
 | (t,_) :: _=>t.toList == [40]
def dB(l:List St)(a:Nat)(s:St):List kC×pt:=if ve s=true then kO l a s else dM l a s.XX s.XJ []
theorem Af(hr:fL f o L b d)(E:w<b.length)(N:jU b)(ad:rW b[w]) :
  Calls prog 101 #[pointer (some ⟨o,L,none⟩),int i64 w] f fun e w'=>∃a:Hd,
   e=returned (tuple #[slice a.ao (dB b w b[w]).1.length a.cap,iu (dB b w b[w]).2])/\aB w' a (gq (dB b w b[w]).1)/\(∀x,a.XR=some x->f.heap.size<=x)/\ae [] f w':=by
 have ai:=N.prfs w E;obtain⟨AO,F⟩:=bn ((d (11+2*w)).ao);obtain⟨W,M⟩:∃W,W=f.alloc (.cells #[int i64 0,string ⟨#[]⟩,int i64 0,int i64 0] 165):=⟨_,rfl⟩
 have K:=fH M.symm;have Q:W.heap[f.heap.size]?=some (.cells bK 165):=by rw[M];exact Ts _ _
 have HW:Xr _:=M.symm;clear M;go_enter func101,ntmps101;go_upto_region 1 with fail
 rw[HW.o];go_wp2_with fail;refine(bF o L w b d _ (hr.XD K) E).mono ?_;rintro e w1 ⟨rfl,l⟩;unfold fR;rw[F.o];obtain⟨D,j⟩:∃D,D=w1.alloc (.cells #[int i64 b[w].XS,string b[w].XU,slice (d (10+2*w)).ao b[w].Xy.length (d (10+2*w)).cap,slice AO b[w].XJ.length (d (11+2*w)).cap,string b[w].XX.XY,int i64 b[w].XX.XZ,int i64 b[w].XX.X0,int i64 b[w].til] 158):=⟨_,rfl⟩
 have G:Xr _:=j.symm;have S:ae [] f D:=by rw[j];exact(K.trans l).alloc _
 have BT:=f8 j.symm;have R:D.heap[f.heap.size]?=some (.cells bK 165):=by rw[j];exact(kr0.alloc _).get (l.get Q (by simp)) (by simp)
 have al:f.heap.size<w1.heap.size:=by have:=aj (l.get Q (by simp));omega
 have an:=aj BT;clear j;go_upto_region 2 with fail
 rw[G.o];clear HW G l Q K;obtain⟨-,-,-,t3,-⟩:=wn BT;have m:=hr.XD S;have k:=m.XP.prfs w b[w] (Tm E)
 have g:Xr (∀(c:World) (fl:pt) (a:Hd) (O:List kC),ae [] D c->(∀x,a.XR=some x->D.heap.size<=x)->aB c a (gq O)->dB b w b[w]=(O,fl) ->
   c.frozen? ⟨f.heap.size,0,none⟩=false/\c.frozen? ⟨f.heap.size,1,none⟩=false/\c.frozen? ⟨f.heap.size,2,none⟩=false/\c.frozen? ⟨f.heap.size,3,none⟩=false /\
   c.cell? ⟨f.heap.size,0,none⟩=some (int i64 0)/\c.cell? ⟨f.heap.size,1,none⟩=some (string ⟨#[]⟩)/\c.cell? ⟨f.heap.size,2,none⟩=some (int i64 0)/\c.cell? ⟨f.heap.size,3,none⟩=some (int i64 0) /\
   ∀T U V X,Xr (ae [] f ((((c.setCell ⟨f.heap.size,0,none⟩ T).setCell ⟨f.heap.size,1,none⟩ U).setCell ⟨f.heap.size,2,none⟩ V).setCell ⟨f.heap.size,3,none⟩ X)/\aB ((((c.setCell ⟨f.heap.size,0,none⟩ T).setCell ⟨f.heap.size,1,none⟩ U).setCell ⟨f.heap.size,2,none⟩ V).setCell ⟨f.heap.size,3,none⟩ X) a (gq O))):=by
  intro c fl a O s ac I he;have B9:=s.get R (by simp);obtain⟨z,A,B,C⟩:=dy B9;have P:=am B9;refine⟨P 0,P 1,P 2,P 3,z,A,B,C,fun T U V X=>⟨lK (S.trans s) (Tp _) _ _ _ _,I.XI (fun x q=>(jQ (r:=f.heap.size) _ _ _ _).block x (I.lt q) (by simp;rintro rfl;have:=ac _ q;omega))⟩⟩
 have y:=S.size;rcases hpr:b[w].XJ with _ | ⟨⟨t,p⟩,r⟩
 ·have H:b[w].XJ.length=0:=by rw[hpr];rfl
  have i:Xr (dB b w b[w]=dM b w b[w].XX b[w].XJ []):=cg (by simp[dB,ve,hpr]);rw[H]at t3;clear hpr k;go_wp2_with (go_at_call 140;refine(qP o L w b d _ m E N).mono ?_;rintro e c ⟨a,rfl,J,u,s⟩;obtain⟨y0,y1,y2,y3,z,A,B,C,n⟩:=g.o c _ a _ s u J i.o;unfold iu);exact Ty (v:=tuple #[slice a.ao (dM b w b[w].XX b[w].XJ []).1.length a.cap,iu (dM b w b[w].XX b[w].XJ []).2]) (by simp[results,results101,go_sem,z,A,B,C,iu]) rfl
   ⟨a,by rw[i.o],by rw[i.o];exact(n _ _ _ _).o.2,fun x q=>TE y (u x q),(n _ _ _ _).o.1⟩
 ·have H:b[w].XJ.length=r.length+1:=by rw[hpr];rfl
  obtain⟨gp,Z,af,Y,d0,-,-,-⟩:=k.word 0 (by omega);obtain rfl:AO=some ⟨gp,0,none⟩:=F.o.symm.trans Z;have ag:((b[w].XJ.length:Int) > 0):=by omega
  simp only[hpr,List.getElem_cons_zero]at d0;cases hc:(t.toList == [40])
  ·have i:Xr (dB b w b[w]=dM b w b[w].XX b[w].XJ []):=(by show _=_;simp[dB,ve,hpr,hc]);clear hpr k Z;go_wp2_with (go_at_call 140;refine(qP o L w b d _ m E N).mono ?_;rintro e c ⟨a,rfl,J,u,s⟩;obtain⟨y0,y1,y2,y3,z,A,B,C,n⟩:=g.o c _ a _ s u J i.o;unfold iu);exact Ty (v:=tuple #[slice a.ao (dM b w b[w].XX b[w].XJ []).1.length a.cap,iu (dM b w b[w].XX b[w].XJ []).2]) (by simp[results,results101,go_sem,z,A,B,C,iu]) rfl
    ⟨a,by rw[i.o],by rw[i.o];exact(n _ _ _ _).o.2,fun x q=>TE y (u x q),(n _ _ _ _).o.1⟩
  ·have i:Xr (dB b w b[w]=kO b w b[w]):=(by show _=_;simp[dB,ve,hpr,hc]);clear hpr k Z;go_wp2_with (go_at_call 139;refine(s9 o L w b d _ m E N ad).mono ?_;rintro e c ⟨a,rfl,J,u,s⟩;obtain⟨y0,y1,y2,y3,z,A,B,C,n⟩:=g.o c _ a _ s u J i.o;unfold iu);exact Ty (v:=tuple #[slice a.ao (kO b w b[w]).1.length a.cap,iu (kO b w b[w]).2]) (by simp[results,results101,go_sem,z,A,B,C,iu]) rfl
    ⟨a,by rw[i.o],by rw[i.o];exact(n _ _ _ _).o.2,fun x q=>TE y (u x q),(n _ _ _ _).o.1⟩
theorem M8:(prog.info? 61).map (fun i=>(i.zero,i.size,i.bytes))=some (some (slice none 0 0),1,24):=by kernel_rfl
structure Ex where
 hd:Hd
 xs:Xt
def xw(e:Ex):Value:=slice e.hd.ao e.xs.length e.hd.cap
def CY(l:List Ex):List Value:=l.map xw
def ig(l:List Ex):eQ:=⟨61,1,l.length,CY l⟩
theorem vu(l:List Ex)(e:Ex):(⟨(ig l).e,(ig l).size,(ig l).n+1,(ig l).xs++[xw e]⟩:eQ)=ig (l++[e]):=by simp[ig,CY]
theorem tR(l:List Ex)(k:Nat)(h:k<l.length):(CY l)[k]?=some (xw l[k]):=by simp[CY,h]
theorem kY.keptP{P:Nat->Prop}(v:kY y N S)(k:fK P y I)(f:∀x,N.XR=some x->¬P x):kY I N S:=by
 rcases v with v | ⟨g,b,a,t,c,d,e⟩
 ·exact TG v
 ·exact TA ⟨g,b,a,t,c,k.get d (f g (by unfold Hd.XR;rw[c];rfl)),e⟩
structure Ct(w:World)(b:Nat)(H:Nat->Hd)(e:Ex):Prop where
 view:kY w e.hd e.xs
 adr:∃ad,e.hd.ao=some ad
 far:∀x,e.hd.XR=some x->x<w.heap.size/\x≠b/\¬ij H x
theorem Ct.turned{f:Nat->Hd}{e:Ex}(h:Ct y x k e)(t:aD x y k I f):Ct I x f e:=by
 refine⟨h.view.keptP t.1 (fun a d=>?_),h.adr,fun a d=>?_⟩
 ·obtain⟨_,b,c⟩:=h.far a d;rintro (e | e)
  ·exact b e
  ·exact c e
 ·obtain⟨g,b,c⟩:=h.far a d;exact⟨Tv g t.1.size,b,t.fresh a g c⟩
theorem Ct.XD{e:Ex}(h:Ct y x k e)(b:ae [] y I):Ct I x k e :=
 ⟨h.view.XD b,h.adr,fun c a=>⟨Tv (h.far c a).1 b.size,(h.far c a).2⟩⟩
def qT(vs:Xt)(be:List Ex):Nat->eQ
 | 0=>aE vs
 | 1=>ig be
 | _+2=>aE []
def pQ(vs:Xt)(be:List Ex)(H:Nat->Hd):List Value:=[slice (H 0).ao vs.length (H 0).cap,slice (H 1).ao be.length (H 1).cap]
structure mW(w:World)(b:Nat)(vs:Xt)(be:List Ex)(H:Nat->Hd):Prop where
 bag:bG w b 343 (pQ vs be H) (qT vs be) H
 len:be.length=vs.length
 exs:∀e∈be,Ct w b H e
theorem mW.XD{a:List Ex}(h:mW y x S a k)(b:ae [] y I):mW I x S a k:=⟨h.bag.XD b,h.len,fun e c=>(h.exs e c).XD b⟩
theorem mW.cells{a:List Ex}(h:mW y x S a k) :
  y.cell? ⟨x,0,none⟩=some (slice (k 0).ao S.length (k 0).cap)/\y.cell? ⟨x,1,none⟩=some (slice (k 1).ao a.length (k 1).cap):=⟨h.bag.cell 0,h.bag.cell 1⟩
def zl(a b:Xt):Bool:=a.map (·.toList)==b.map (·.toList)
theorem O6(h:S.length≠M.length):zl S M=false:=by
 unfold zl;rw[TT];intro e;have:=congrArg List.length e;simp at this;exact h this
theorem QY(a:n<S.length)(b:n<M.length)(h:(S[n].toList==M[n].toList)=false):zl S M=false:=by
 unfold zl;rw[TT]at h ⊢;intro e;have:=congrArg (fun l=>l[n]?) e;simp[a,b]at this;exact h this
theorem If(c:S.length=M.length)(h:∀k (a:k<S.length) (b:k<M.length),(S[k].toList==M[k].toList)=true):zl S M=true:=by
 unfold zl;rw[U9];apply WB
 ·simpa using c
 ·intro k a b;simp at a b ⊢;exact U9.1 (h k a b)
set_option maxRecDepth 512
theorem zM(p q:Hd)(a b:Xt)(w:World)(Y:kY w p a)(Z:kY w q b)(U:a.length<=1073741824)(V:b.length<=1073741824) :
  Calls prog 212 #[slice p.ao a.length p.cap,slice q.ao b.length q.cap] w fun e w'=>e=returned (bool (zl a b))/\ae [] w w':=by
 obtain⟨K,A⟩:=p;obtain⟨L,B⟩:=q;by_cases f:a.length=b.length
 ·have X:((a.length:Int) != b.length)=false:=by simp[f]
  by_cases H:a.length=0
  ·have d:Xr (zl a b=true):=If f (fun k p q=>by omega);go_enter func212,ntmps212;go_wp2;refine Vz 1 ?_;rw[VS];go_wp2;go_ret;exact⟨aF d.o.symm,ae.refl _ _⟩
  ·rcases Y with rfl | ⟨g,u,M,t,D,E,y,N,O⟩
   ·simp at H
   rcases Z with rfl | ⟨R,l,C,t',F,G,z,P,Q⟩
   ·simp at f;simp[f]at H
   simp only at D F N O P Q;subst D;subst F;go_enter func212,ntmps212;go_wp2
   go_loopg [5] a.length (fun gk i wr=>∃k:Nat,k<=a.length/\gk=a.length-k/\i=int i64 k/\Xr (∀i (v:i<a.length) (x:i<b.length),i<k->(a[i].toList==b[i].toList)=true)/\ae [] w wr)
   ·exact⟨0,by omega,by omega,rfl,fun i _ _ T=>by omega,ae.refl _ _⟩
   obtain⟨k,hk,hg,rfl,c,r⟩:=hrel;by_cases s:k<a.length
   ·have j:k<b.length:=(by omega);have c1:wr.cell? ⟨g,u+k,none⟩=some (string a[k]):=(ah (r.get E (by simp)) (u+k)).trans (y k a[k] (Tm s));have c2:wr.cell? ⟨R,l+k,none⟩=some (string b[k]):=(ah (r.get G (by simp)) (l+k)).trans (z k b[k] (Tm j));have W:(k:Int)<a.length:=(by omega);have J:(k:Int)<b.length:=(by omega);have m:Xr _:=QY k s j;have n:Xr ((a[k].toList==b[k].toList)=true->∀i (v:i<a.length) (x:i<b.length),i<k+1->(a[i].toList==b[i].toList)=true):=by
     intro S i v x T;by_cases e:i=k
     ·subst e;exact S
     ·exact c.o i v x (by omega)
    clear c y z E G;cases I:(a[k].toList==b[k].toList)
    ·have d:Xr _:=m.o I;clear m n f;(go_upto_region 6 with fail);go_quiet (fail);go_wp2;go_ret;exact⟨aF d.o.symm,r.drewN _⟩
    ·have d:Xr _:=n.o I;clear m n f;(go_upto_region 6 with fail);go_quiet (fail);go_wp2;go_roundg (a.length-(k+1))
     ·exact⟨k+1,by omega,rfl,by go_num,d.o,r.drewN _⟩
     omega
   ·have d:Xr (zl a b=true):=If f (fun i v x=>c.o i v x (by omega));clear c y z;go_wp2;go_ret;exact⟨aF d.o.symm,r⟩
 ·have d:Xr (zl a b=false):=O6 f;have X:((a.length:Int) != b.length)=true:=by simp[bne];omega
  go_enter func212,ntmps212;go_wp2;go_ret;exact⟨aF d.o.symm,ae.refl _ _⟩
theorem Lf(s:List Ex)(m:Nat->Hd)(x:Xs)(d:World)(h:mW d w H s m)(F:H.length<=1073741824) :
  Calls prog 279 #[pointer (some ⟨w,0,none⟩),string x] d fun e A=>e=returned (int i64 (oC (mE H x)))/\A=d:=by
 obtain⟨t,u⟩:=h.cells;have l:=h.len;have a:aB d (m 0) (aE H):=h.bag.X6 0;rw[l]at u;go_enter func279,ntmps279;go_wp2
 go_loopg [5] H.length (fun g i wr=>∃k:Nat,k<=H.length/\g=H.length-k/\i=int i64 k/\Xr (∀i,i<k->((H.getD i ⟨#[]⟩).toList==x.toList)=false)/\wr=d)
 ·exact⟨0,by omega,by omega,rfl,fun i q=>by omega,rfl⟩
 obtain⟨k,E,D,rfl,b,rfl⟩:=hrel;by_cases c:k<H.length
 ·rcases a.XO with ⟨_,z,_⟩ | ⟨g,v,n,-,C,-⟩
  ·have:H.length=0:=z;omega
  ·have B:=a.cell n k (string H[k]) (uF H k c);rw[n]at t;have f:Xr _:=wK H k c;generalize H[k]=y at *;cases p:(y.toList==x.toList)
   ·have r:Xr (∀i,i<k+1->((H.getD i ⟨#[]⟩).toList==x.toList)=false):=by
     intro i q;by_cases e:i=k
     ·subst e;rw[f.o];exact p
     ·exact b.o i (by omega)
    clear f h a;go_wp2;go_roundg (H.length-(k+1))
    ·exact⟨k+1,by omega,rfl,by go_num,r,rfl⟩
    omega
   ·have j:Xr (mE H x=some k):=pa c (by rw[f.o];exact p) b.o;clear f h a;go_wp2;go_ret;exact⟨au (by rw[j.o];rfl),rfl⟩
 ·have j:Xr (mE H x=none):=nP (fun i q=>b.o i (by omega));clear h a;go_wp2;go_ret;exact⟨au (by rw[j.o];rfl),rfl⟩
theorem uJ{P:Program}{A:Array Oper}{p:List Oper}{o:Oper}{a:Act}{Q:Exit->Act->World->Prop}(V:o.guard=none)(s x:Operand)(t:TypeId)(F:o.op=Op.call { callee:=Callee.builtin Builtin.append,args:=#[s,x],argTypes:=#[t,t] })(i:TypeInfo)(z:Value)(d:Nat)(h:Hd)(r:eQ)(L:P.underlying t=some (.slice r.e))(M:P.info? r.e=some i)(N:i.zero=some z)(O:i.size=r.size)(R:i.bytes=d)(S:z.cells.size=r.size)(T:0<r.size)(X:a.eval s=slice h.ao r.n h.cap)(y:aB f h r)(C:Addr)(m c:Nat)(b:List Value)(Y:a.eval x=slice (some C) m c)(W:b.length=m*r.size)(U:∀j u,b[j]?=some u->f.cell? (C.add j)=some u)(E:∀u∈b,u.oneCell'=true)(J:r.n+m<=maxLen)(K:(r.n+m)*d<=140737488355328)(I:∀k q,aB q k ⟨r.e,r.size,r.n+m,r.xs++b⟩->f.grownBy q h.XR->(k.XR=h.XR∨k.XR=some f.heap.size)->wpList P A Q p (a.put o.dst (slice k.ao (r.n+m) k.cap)) q) :
  wpList P A Q (o :: p) a f:=by
 refine wpList_append_own_at f V s x t F 0 r.e i z r.size d L M N O R S T (slice h.ao r.n h.cap) r.n r.xs X y C m c b Y W U E J K (Ub _) ?_;intro v' q G H Z B;rw[BG]at H B;rcases G.2 with ⟨v,w⟩ | ⟨g,l,D,v,w⟩
 ·have:=I ⟨none,0⟩ q ⟨G.1,TG ⟨by rw[w],w⟩⟩ H (by rw[v]at B;exact B);rw[v];rw[w]at this;exact this
 ·have:=I ⟨some ⟨g,0,none⟩,l⟩ q ⟨G.1,TA ⟨g,l,D,rfl,w⟩⟩ H (by rw[v]at B;exact B);rw[v];exact this
def AW(vs:Xt)(bs:List Xt)(x:Xs):Xt:=match mE vs x with | none=>[x] | some i=>bs.getD i []
def jH(vs:Xt)(bs:List Xt):Xt->Xt->Xt
 | [],acc=>acc
 | x :: r,acc=>if acc.length<=32 then jH vs bs r (acc++AW vs bs x) else acc
def mG(vs:Xt)(bs:List Xt)(sy:Xt):Xt:=jH vs bs sy []
theorem Qd(c:n<i.length)(b:H.length<=32):jH D a (i.drop n) H=jH D a (i.drop (n+1)) (H++AW D a i[n]):=by
 rw[TU c,jH,Tq b]
theorem KQ(b:¬H.length<=32):jH D a i H=H:=by
 cases i with
 | nil=>rfl
 | cons x r=>rw[jH,To b]
theorem NT(b:¬n<i.length):jH D a (i.drop n) H=H:=by
 rw[UR (by omega)];rfl
theorem Mq(c:1<=n)(h:∀b∈a,b.length<=n):(AW D a T).length<=n:=by
 unfold AW;split
 ·simpa using c
 ·next i _ =>
  rw[Tn];cases e:a[i]? with
  | none=>simp
  | some b=>simpa using h b (UZ e)
theorem Gg(f:1<=n)(h:∀b∈a,b.length<=n)(e c:Xt)(d:c.length<=32+n):(jH D a e c).length<=32+n:=by
 induction e generalizing c with
 | nil=>exact d
 | cons x r g =>
  rw[jH];split
  ·have:=Mq D a x n f h;exact g _ (by simp;omega)
  ·exact d
theorem KP(d:1<=n)(h:∀b∈a,b.length<=n)(c:Xt):(mG D a c).length<=32+n:=Gg D a n d h c [] (by simp)
theorem La:(⟨(aE i).e,(aE i).size,(aE i).n+H.length,(aE i).xs++dK H⟩:eQ)=aE (i++H):=by simp[aE,dK]
theorem kY.cells{d:Addr}(v:kY y N S)(e:N.ao=some d):∀j u,(dK S)[j]?=some u->y.cell? (d.add j)=some u:=by
 intro j u i;rcases v with rfl | ⟨g,a,k,t,f,l,m,-⟩
 ·simp[dK]at i
 ·rw[e]at f;cases f
  have b:(S[j]?).map string=some u:=by simpa [dK] using i
  cases c:S[j]? with
  | none=>rw[c]at b;cases b
  | some x =>
   rw[c]at b;cases b;have:(⟨g,a,none⟩:Addr).add j=⟨g,a+j,none⟩:=by
    simp only[Addr.add];split
    ·next n=>subst n;rfl
    ·rfl
   rw[this,ah l];exact m j x c
set_option maxRecDepth 100000
theorem qQ(f:List Ex)(ag:Nat->Hd)(hy:Hd)(d:Xt)(B:World)(h:mW B w H f ag)(hl:H.length<=10000)(an:∀e∈f,e.xs.length<=10000)(hv:kY B hy d)(ar:d.length<=10000) :
  Calls prog 275 #[pointer (some ⟨w,0,none⟩),slice hy.ao d.length hy.cap] B fun e w'=>∃m:Hd,
   e=returned (slice m.ao (mG H (f.map Ex.xs) d).length m.cap)/\aB w' m (aE (mG H (f.map Ex.xs) d))/\(∀x,m.XR=some x->B.heap.size<=x)/\ae [] B w':=by
 obtain⟨i0,hi,Y,Z,ac⟩:=TY ke;obtain⟨ao,ax⟩:=hy;rcases hv with rfl | ⟨g,af,az,t,e1,e2,e3,e4,e5⟩
 ·clear ar;go_enter func275,ntmps275;go_wp2;refine Vz 1 ?_;rw[VS];go_wp2;go_ret;exact⟨⟨none,0⟩,rfl,Tw _ _ _ _,by intro x v;simp[Hd.XR]at v,ae.refl _ _⟩
 simp only at e1 e4 e5;subst e1;obtain⟨R,HR⟩:∃R,Xr (R=mG H (f.map Ex.xs) d):=⟨_,rfl⟩
 rw[<-HR.o];go_enter func275,ntmps275;go_wp2
 go_loopg [5,6] d.length (fun gk sv i wr=>∃(k:Nat) (m:Hd) (a:Xt),k<=d.length/\gk=d.length-k/\i=int i64 k/\sv=slice m.ao a.length m.cap/\a.length<=10032/\Xr (R=jH H (f.map Ex.xs) (d.drop k) a)/\aB wr m (aE a)/\(∀x,m.XR=some x->B.heap.size<=x)/\ae [] B wr)
 ·exact⟨0,⟨none,0⟩,[],by omega,by omega,rfl,rfl,by simp,HR.o,Tw _ _ _ _,by intro x v;simp[Hd.XR]at v,ae.refl _ _⟩
 obtain⟨k,m,a,hk,hg,rfl,rfl,aT,r,Q,L,D⟩:=hrel;have T:=h.XD D;by_cases J:k<d.length
 ·by_cases ha:a.length<=32
  ·have al:(a.length:Int)<=32:=(by omega);have c2:wr.cell? ⟨g,af+k,none⟩=some (string d[k]):=(ah (D.get e2 (by simp)) (af+k)).trans (e3 k d[k] (Tm J));have z:Xr _:=r.o.trans (Qd H (f.map Ex.xs) d a k J ha);have N:Xr _:=(fun w1 h1=>Lf w H f ag d[k] w1 h1 (by omega));clear r e3;generalize d[k]=y at *;rcases hp:mE H y with _ | p
   ·have c:Xr (R=jH H (f.map Ex.xs) (d.drop (k+1)) (a++[y])):=(by show _=_;rw[z.o];simp[AW,hp]);have S:=Q.XI (fun x v=>((ae.refl [] wr).alloc (.cells #[string y] 9)).block x (Q.lt v) (by simp));clear z;(go_upto_region 7 with (go_at_call 279;refine(N.o _ T).mono ?_;rintro e w3 ⟨rfl,K⟩;rw[K,hp];simp only[oC]));go_wp2_with (at_builtin;refine aL _ rfl (.tmp 27) (.tmp 32) 61 rfl i0 (string ⟨#[]⟩) 16 m (aE a) underlying61 hi Y Z ac rfl TQ rfl (by exact S) ⟨_,0,none⟩ 1 1 [string y] rfl rfl ?d1 ?d2 TQ ?d3 ?d4 ?_)
    case d1=>intro j u hj;match j,hj with | 0,hj=>simp at hj;subst hj;simp[Addr.add]
    case d2=>intro u X;simp at X;subst X;rfl
    case d3=>simp only[aE];unfold maxLen;omega
    case d4=>simp only[aE];omega
    intro g5 O w5 s l b;rw[dW a y]at s;have P:=D.alloc (.cells #[string y] 9);have E:=P.grown l L;have V:B.heap.size<=g5:=by
     rcases b with e | e
     ·exact L g5 e
     ·have:=P.size;simp at e this;omega
    have C:Xr ((aE a).n+1=(a++[y]).length):=cg (by simp[aE]);rw[C.o];clear l b S;go_wp2;go_roundg (d.length-(k+1))
    ·exact⟨k+1,⟨some ⟨g5,0,none⟩,O⟩,a++[y],by omega,rfl,by go_num,rfl,by simp;omega,c.o,s,by intro x v;simp[Hd.XR]at v;omega,E⟩
    omega
   ·have a1:p<H.length:=by
     have:=Ur hp;simpa using this
    have a0:=h.len;have A:p<f.length:=(by omega);have c:Xr (R=jH H (f.map Ex.xs) (d.drop (k+1)) (a++f[p].xs)):=cg (by rw[z.o];simp[AW,hp,A]);have I:=T.exs f[p] (TO A);have ap:=an f[p] (TO A);obtain⟨ad,G⟩:=I.adr;have W:=I.view.cells G;obtain⟨s0,s1⟩:=T.cells;have F:aB wr (ag 1) (ig f):=T.bag.X6 1;rcases F.XO with ⟨_,h0,_⟩ | ⟨gb,av,eb,-,aS,-⟩
    ·have:f.length=0:=h0;omega
    have cb:=F.cell eb p (xw f[p]) (tR f p A);rw[eb]at s1;unfold xw at cb;rw[G]at cb;have M:Xr _:=W;clear z I G W F eb;generalize f[p]=ex at *;obtain⟨ai,q⟩:=ex;simp only at cb ap c M;(go_upto_region 8 with (go_at_call 279;refine(N.o _ T).mono ?_;rintro e w3 ⟨rfl,K⟩;rw[K,hp];simp only[oC]));go_wp2_with (at_builtin;refine uJ _ rfl (.tmp 34) (.tmp 41) 61 rfl i0 (string ⟨#[]⟩) 16 m (aE a) underlying61 hi Y Z ac rfl TQ rfl (by exact Q) ad q.length ai.cap (dK q) rfl (by simp[dK,aE]) M.o ?d2 ?d3 ?d4 ?_)
    case d2=>intro u X;simp[dK]at X;obtain⟨_,_,rfl⟩:=X;rfl
    case d3=>simp only[aE];unfold maxLen;omega
    case d4=>simp only[aE];omega
    intro U w5 s l b;rw[La a q]at s;have E:=D.grown l L;have V:∀x,U.XR=some x->B.heap.size<=x:=by
     intro x v;rcases b with e | e
     ·exact L x (e ▸ v)
     ·rw[e]at v;cases v;exact D.size
    have C:Xr ((aE a).n+q.length=(a++q).length):=cg (by simp[aE]);rw[C.o];clear l b;go_wp2;go_roundg (d.length-(k+1))
    ·exact⟨k+1,U,a++q,by omega,rfl,by go_num,rfl,by simp;omega,c.o,s,V,E⟩
    omega
  ·have al:¬(a.length:Int)<=32:=(by omega);have c:Xr (a=R):=(r.o.trans (KQ _ _ _ _ ha)).symm;clear r e3;go_wp2;go_ret;exact⟨m,by rw[<-c.o];rfl,by rw[<-c.o];exact Q,L,D⟩
 ·have c:Xr (a=R):=(r.o.trans (NT _ _ _ _ _ J)).symm;clear r e3;go_wp2;go_ret;exact⟨m,by rw[<-c.o];rfl,by rw[<-c.o];exact Q,L,D⟩
def lU(s:St)(e:Xt)(S:Xt×List Xt):Int×Xt×List Xt :=
 if(s.XS==3)=true then(if zl (mG S.1 S.2 s.Xy) e=true then(0,S) else(8,S))
 else match e with
  | []=>(7,S)
  | x :: r=>if(x.toList==(je s).toList)=true then(0,S.1++[aN s],S.2++[r]) else(7,S)
structure sx(w:World)(b:Nat)(H:Nat->Hd)(h:Hd)(l:Xt):Prop where
 view:kY w h l
 far:∀x,h.XR=some x->x<w.heap.size/\x≠b/\¬ij H x
theorem sx.XD(f:sx y x k N S)(b:ae [] y I):sx I x k N S :=
 ⟨f.view.XD b,fun c a=>⟨Tv (f.far c a).1 b.size,(f.far c a).2⟩⟩
def jJ(g off cap:Nat)(r:Xt):Ex:=⟨⟨if cap=1 then some ⟨g,off,none⟩ else some ⟨g,off+1,none⟩,cap-1⟩,r⟩
theorem Oh:(jJ o L w H).hd.XR=some o:=by unfold jJ Hd.XR;simp only;split <;> rfl
theorem Qr{g a:Nat}{s:Xs}(h:sx y x k ⟨some ⟨g,a,none⟩,n⟩ (s :: S)):Ct y x k (jJ g a n S):=by
 have q:(jJ g a n S).hd.XR=some g:=by unfold jJ Hd.XR;simp only;split <;> rfl
 refine⟨?_,?_,fun d b=>h.far d (by rw[q]at b;exact b)⟩
 ·by_cases e:S=[]
  ·subst e;exact TG rfl
  ·rcases h.view with r | ⟨u,f,c,t,i,l,m,o,p⟩
   ·cases r
   ·cases i
    have v:0<S.length:=Wh.2 e;simp only[List.length_cons]at o;refine TA ⟨g,a+1,c,t,by simp only[jJ];rw[To (by omega)],l,fun j d b=>?_,by simp only[jJ];omega,by simp only[jJ]at p ⊢;omega⟩;have:=m (j+1) d (by simpa [jJ] using b);rw[show a+1+j=a+(j+1) by omega];exact this
 ·unfold jJ;simp only;split
  ·exact⟨_,rfl⟩
  ·exact⟨_,rfl⟩
theorem Pc(a:List Ex)(l:Nat->Hd)(s:St)(E G O:Hd)(D:Xt)(i:World)(h:mW i w H a l)(hl:H.length<=9999)(ad:∀e∈a,e.xs.length<=10000)(hs:kY i E s.Xy)(a0:s.Xy.length<=10000)(hx:sx i w l O D)(bo:D.length<=10000) :
  Calls prog 273 #[pointer (some ⟨w,0,none⟩),fR s E G,slice O.ao D.length O.cap] i fun e d=>∃(S:List Ex) (H':Nat->Hd),
   e=returned (int i64 (lU s D (H,a.map Ex.xs)).1)/\mW d w (lU s D (H,a.map Ex.xs)).2.1 S H'/\S.map Ex.xs=(lU s D (H,a.map Ex.xs)).2.2/\aD w i l d H'/\∀e∈S,e∈a∨e.hd.XR=O.XR:=by
 obtain⟨i0,hi,a5,a6,a7⟩:=TY ke;obtain⟨i1,az,a2,a3,a4⟩:=TY M8;have bk:a.length<=9999:=by have:=h.len;omega
 unfold fR;obtain⟨W,hW⟩:∃W,W=i.alloc (.cells #[int i64 s.XS,string s.XU,slice E.ao s.Xy.length E.cap,slice G.ao s.XJ.length G.cap,string s.XX.XY,int i64 s.XX.XZ,int i64 s.XX.X0,int i64 s.til] 158):=⟨_,rfl⟩
 have K:=fH hW.symm;have B:=f8 hW.symm;have HW:Xr _:=hW.symm;obtain⟨u0,u1,u2,u3,u4,u5,u6,u7⟩:=wn B;have V:=h.XD K;have M:=hs.XD K;have ar:=hx.XD K;clear hW;cases Q:(s.XS==3)
 ·rcases D with _ | ⟨x,r⟩
  ·have v:Xr (lU s [] (H,a.map Ex.xs)=(7,H,a.map Ex.xs)):=(by show _=_;simp[lU,Q]);clear u1 u2 u3 u4 u5 u6 u7;go_enter func273,ntmps273;(go_upto_region 1 with fail);rw[HW.o];(go_upto_region 5 with fail);go_quiet (fail);go_wp2;go_ret;exact⟨a,l,au (by rw[v.o]),by rw[v.o];exact V.XD (kr0.drewN _),by rw[v.o],(aD.refl _ _ _).XD (K.drewN _),fun _ q=>TG q⟩
  ·obtain⟨bf,b⟩:=O;rcases ar.view with ai | ⟨g,c,bg,t,e1,e2,e3,e4,e5⟩
   ·cases ai
   simp only at e1 e4 e5;subst e1;have aS:¬((r.length:Int)+1==0)=true:=by simp;omega
   have HN:Xr ((x :: r).length=r.length+1):=rfl;have bl:(0:Int)<(r.length:Int)+1:=(by omega);have bd:(1:Int)<=(r.length:Int)+1:=(by omega);rw[HN.o]at *;have cx:W.cell? ⟨g,c,none⟩=some (string x):=by have:=(ah e2 c).trans (by simpa using e3 0 x rfl);exact this
   have TC:=Cd s E G;unfold fR at TC;have Z:Xr _:=TC;have HC:Xr (∀d,ae [] W.drew d->d.cell? ⟨g,c,none⟩=some (string x)/\d.cell? ⟨i.heap.size,0,none⟩=some (int i64 s.XS)/\d.cell? ⟨i.heap.size,1,none⟩=some (string s.XU)/\d.cell? ⟨i.heap.size,2,none⟩=some (slice E.ao s.Xy.length E.cap)/\d.cell? ⟨i.heap.size,3,none⟩=some (slice G.ao s.XJ.length G.cap)/\d.cell? ⟨i.heap.size,4,none⟩=some (string s.XX.XY)/\d.cell? ⟨i.heap.size,5,none⟩=some (int i64 s.XX.XZ)/\d.cell? ⟨i.heap.size,6,none⟩=some (int i64 s.XX.X0)/\d.cell? ⟨i.heap.size,7,none⟩=some (int i64 s.til)):=by
    intro d k;have q:=k.get (show W.drew.heap[i.heap.size]?=_ from B) (by simp);have q2:=k.get (show W.drew.heap[g]?=_ from e2) (by simp);refine⟨(ah q2 c).trans (by simpa using e3 0 x rfl),?_,?_,?_,?_,?_,?_,?_,?_⟩ <;> (rw[ah q];rfl)
   clear TC e3;go_enter func273,ntmps273;(go_upto_region 1 with fail);rw[HW.o];(go_upto_region 5 with fail);cases hc:(x.toList==(je s).toList)
   ·have v:Xr (lU s (x :: r) (H,a.map Ex.xs)=(7,H,a.map Ex.xs)):=(by show _=_;simp[lU,Q,hc]);go_region_held3 (fun d=>d.cell? ⟨g,c,none⟩=some (string x)/\d.cell? ⟨i.heap.size,0,none⟩=some (int i64 s.XS)/\d.cell? ⟨i.heap.size,1,none⟩=some (string s.XU)/\d.cell? ⟨i.heap.size,2,none⟩=some (slice E.ao s.Xy.length E.cap)/\d.cell? ⟨i.heap.size,3,none⟩=some (slice G.ao s.XJ.length G.cap)/\d.cell? ⟨i.heap.size,4,none⟩=some (string s.XX.XY)/\d.cell? ⟨i.heap.size,5,none⟩=some (int i64 s.XX.XZ)/\d.cell? ⟨i.heap.size,6,none⟩=some (int i64 s.XX.X0)/\d.cell? ⟨i.heap.size,7,none⟩=some (int i64 s.til)) (go_keep) (first | (go_at_call 192;refine(Z.o _ (by exact M.XD kr0.drew) (by omega)).mono ?_;rintro e U ⟨rfl,F⟩;obtain⟨x0,x1,x2,x3,x4,x5,x6,x7,x8⟩:=HC.o U F))
    all_goals
     clear u0 u1 u2 u3 u4 u5 u6 u7 cx;go_wp2;go_ret;exact⟨a,l,au (by rw[v.o]),by rw[v.o];exact V.XD ((kr0.drew).trans F),by rw[v.o],(aD.refl _ _ _).XD (K.drew.trans F),fun _ q=>TG q⟩
   ·have v:Xr (lU s (x :: r) (H,a.map Ex.xs)=(0,H++[aN s],a.map Ex.xs++[r])):=(by show _=_;simp[lU,Q,hc]);have VA:=pU s E G;unfold fR at VA;have av:Xr _:=VA;clear VA;go_region_held3 (fun d=>d.cell? ⟨g,c,none⟩=some (string x)/\d.cell? ⟨i.heap.size,0,none⟩=some (int i64 s.XS)/\d.cell? ⟨i.heap.size,1,none⟩=some (string s.XU)/\d.cell? ⟨i.heap.size,2,none⟩=some (slice E.ao s.Xy.length E.cap)/\d.cell? ⟨i.heap.size,3,none⟩=some (slice G.ao s.XJ.length G.cap)/\d.cell? ⟨i.heap.size,4,none⟩=some (string s.XX.XY)/\d.cell? ⟨i.heap.size,5,none⟩=some (int i64 s.XX.XZ)/\d.cell? ⟨i.heap.size,6,none⟩=some (int i64 s.XX.X0)/\d.cell? ⟨i.heap.size,7,none⟩=some (int i64 s.til)) (go_keep) (first | (go_at_call 192;refine(Z.o _ (by exact M.XD kr0.drew) (by omega)).mono ?_;rintro e U ⟨rfl,F⟩;obtain⟨x0,x1,x2,x3,x4,x5,x6,x7,x8⟩:=HC.o U F))
    all_goals
     have ac:=V.XD ((kr0.drew).trans F);obtain⟨m0,m1⟩:=ac.cells;have a1:=M.XD ((kr0.drew).trans F);clear u0 u1 u2 u3 u4 u5 u6 u7 cx x0;(go_upto_region 7 with fail);have s4:Xr ((aE H).n+1<=maxLen):=(by show _<=_;simp only[aE];unfold maxLen;omega);have s5:Xr (((aE H).n+1)*16<=140737488355328):=(by show _<=_;simp only[aE];omega);have s3:Xr (∀u∈([string (aN s)]:List Value),u.oneCell'=true):=(by intro u hu;simp at hu;subst hu;rfl);have ax:Xr (∀L,ae [] U.drew L->mW L w H a l/\mW (L.alloc (.cells #[string (aN s)] 9)) w H a l/\∀j u,([string (aN s)]:List Value)[j]?=some u->(L.alloc (.cells #[string (aN s)] 9)).cell? ((⟨L.heap.size,0,none⟩:Addr).add j)=some u):=by
      intro L k;have q:=ac.XD (((ae.refl [] U).drew).trans k);refine⟨q,q.XD (kr0.alloc _),fun j u I=>?_⟩;have Q:(L.alloc (.cells #[string (aN s)] 9)).heap[L.heap.size]?=some (.cells #[string (aN s)] 9):=Ts _ _;rw[bX,ah Q];simpa using I
     have aT:Xr (∀j,j≠0->qT (H++[aN s]) a j=qT H a j):=by
      intro j I
      match j,I with
      | 0,I=>exact absurd rfl I
      | 1,_=>rfl
      | m+2,_=>rfl
     go_region_law (first | (refine da rfl (.tmp 32) (.tmp 35) 61 rfl i0 (string ⟨#[]⟩) 16 (l 0) (aE H) underlying61 hi a5 a6 a7 rfl TQ (by simp[Act.eval] <;> rfl) (y1.bag.X6 0) ⟨_,0,none⟩ 1 1 [string (aN s)] (by simp[Act.eval] <;> rfl) rfl y2 s3.o TQ s4.o s5.o ?_;intro J f w5 an ag C;obtain⟨k5,f5,HP⟩:=bG.app y1.bag (cs':=pQ (H++[aN s]) a (iI l 0 ⟨some ⟨J,0,none⟩,f⟩)) (rows':=qT (H++[aN s]) a) 0 0 J f ((aE H).n+1) _ an (dW H (aN s)) ag (by simpa using C) aT.o (slice (l 0).ao H.length (l 0).cap) rfl (by simp[pQ,iI,aE]);clear an ag C) | (go_simp;go_at_call 190;refine(av.o _ (by exact a1.XD kr0.drew) (by omega)).mono ?_;rintro e L ⟨rfl,k4⟩;obtain⟨y0,y1,y2⟩:=ax.o L k4;obtain⟨n0,n1⟩:=y0.cells;obtain⟨p0,p1⟩:=y1.cells))
     all_goals
      generalize hX:w5.setCell ⟨w,0,none⟩ (slice (some ⟨J,0,none⟩) ((aE H).n+1) f)=X at HP ⊢;have T5:Xr (aD w i l X (iI l 0 ⟨some ⟨J,0,none⟩,f⟩)):=(((HP.o.2.first (kr0.alloc _)).first (((ae.refl [] U).drew).trans k4)).first (K.drew.trans F));have D5:=HP.o.1;have q1:=D5.cell 1;have bj:=D5.lt;simp only[pQ,List.getElem?_cons_succ,List.getElem?_cons_zero]at q1;clear hX k5 f5 n0 n1 p0 p1 y0 y1 y2 m0 m1 x1 x2 x3 x4 x5 x6 x7 x8;(go_upto_region 8 with fail);have hD:Xr (bG (X.alloc (.cells #[xw (jJ g c b r)] 61)).drew w 343 (pQ (H++[aN s]) a (iI l 0 ⟨some ⟨J,0,none⟩,f⟩)) (qT (H++[aN s]) a) (iI l 0 ⟨some ⟨J,0,none⟩,f⟩)):=D5.XD ((ae.refl [] X).alloc _).drew;have s2:Xr (∀j u,([xw (jJ g c b r)]:List Value)[j]?=some u->(X.alloc (.cells #[xw (jJ g c b r)] 61)).drew.cell? ((⟨X.heap.size,0,none⟩:Addr).add j)=some u):=by
       intro j u I;have Q:(X.alloc (.cells #[xw (jJ g c b r)] 61)).drew.heap[X.heap.size]?=some (.cells #[xw (jJ g c b r)] 61):=Ts _ _;rw[bX,ah Q];simpa using I
      have T:Xr (∀u∈([xw (jJ g c b r)]:List Value),u.oneCell'=true):=(by intro u hu;simp at hu;subst hu;rfl);have ba:Xr ((ig a).n+1<=maxLen):=(by show _<=_;simp only[ig];unfold maxLen;omega);have bc:Xr (((ig a).n+1)*24<=140737488355328):=(by show _<=_;simp only[ig];omega);have al:Xr (∀j,j≠1->qT (H++[aN s]) (a++[jJ g c b r]) j=qT (H++[aN s]) a j):=by
       intro j I
       match j,I with
       | 0,_=>rfl
       | 1,I=>exact absurd rfl I
       | m+2,_=>rfl
      unfold xw at hD s2 T;simp only[jJ]at hD s2 T;go_region_law (refine da rfl (.tmp 43) (.tmp 46) 218 rfl i1 (slice none 0 0) 24 (iI l 0 ⟨some ⟨J,0,none⟩,f⟩ 1) (ig a) underlying218 az a2 a3 a4 rfl TQ (by simp[Act.eval] <;> rfl) (hD.o.X6 1) ⟨X.heap.size,0,none⟩ 1 1 _ (by simp[Act.eval]) rfl s2.o T.o TQ ba.o bc.o ?_;intro g6 N w6 ap P p;obtain⟨k6,f6,Y⟩:=bG.app hD.o (cs':=pQ (H++[aN s]) (a++[jJ g c b r]) (iI (iI l 0 ⟨some ⟨J,0,none⟩,f⟩) 1 ⟨some ⟨g6,0,none⟩,N⟩)) (rows':=qT (H++[aN s]) (a++[jJ g c b r])) 1 1 g6 N ((ig a).n+1) _ ap (vu a (jJ g c b r)) P (by simpa using p) al.o (slice (iI l 0 ⟨some ⟨J,0,none⟩,f⟩ 1).ao a.length (iI l 0 ⟨some ⟨J,0,none⟩,f⟩ 1).cap) rfl (by simp[pQ,iI,ig]);clear ap P p)
      all_goals
       have T6:Xr _:=T5.o.trans (Y.o.2.first (kr0.alloc _).drew);clear q1 k6 f6;generalize (if b=1 then some (⟨g,c,none⟩:Addr) else some ⟨g,c+1,none⟩)=AE;go_wp2;go_ret;refine⟨a++[jJ g c b r],_,au (by rw[v.o]),?_,by rw[v.o];simp[jJ],T6.o,fun e q=>by rw[Uf]at q;rcases q with q | q;exact TG q;simp at q;subst q;exact TA (Oh g c b r)⟩;rw[v.o];refine⟨Y.o.1,by simp[h.len],?_⟩;intro e A;rw[Uf]at A;rcases A with A | A
       ·exact(h.exs e A).turned T6.o
       ·simp at A;subst A;exact(Qr b hx).turned T6.o
 ·go_enter func273,ntmps273;go_upto_region 1 with fail
  rw[HW.o];have RA:=qQ w H a l E s.Xy W V (by omega) ad M a0;have RL:=KP H (a.map Ex.xs) 10000 (by omega) (by intro y hy;obtain⟨e,O,rfl⟩:=UF.1 hy;exact ad e O) s.Xy;have v:Xr (lU s D (H,a.map Ex.xs)=if zl (mG H (a.map Ex.xs) s.Xy) D=true then(0,H,a.map Ex.xs) else(8,H,a.map Ex.xs)):=cg (by simp[lU,Q]);generalize mG H (a.map Ex.xs) s.Xy=R at *;clear u1 u3 u4 u5 u6 u7;go_wp2_with fail;refine RA.mono ?_;rintro e w2 ⟨hd,rfl,ho,hn,k2⟩;go_wp2_with fail;refine(zM hd O R D w2 ho.view (ar.view.XD k2) (by omega) (by omega)).mono ?_;rintro e U ⟨rfl,F⟩;cases af:zl R D
  ·have z:Xr (lU s D (H,a.map Ex.xs)=(8,H,a.map Ex.xs)):=(by show _=_;rw[v.o,af];simp);clear v RA;go_wp2;go_ret;exact⟨a,l,au (by rw[z.o]),by rw[z.o];exact(V.XD k2).XD F,by rw[z.o],(aD.refl _ _ _).XD ((K.trans k2).trans F),fun _ q=>TG q⟩
  ·have z:Xr (lU s D (H,a.map Ex.xs)=(0,H,a.map Ex.xs)):=(by show _=_;rw[v.o,af];simp);clear v RA;go_wp2;go_ret;exact⟨a,l,au (by rw[z.o]),by rw[z.o];exact(V.XD k2).XD F,by rw[z.o],(aD.refl _ _ _).XD ((K.trans k2).trans F),fun _ q=>TG q⟩
end Go.Proofs.YtnbhnocdhbcbcaaGreat
