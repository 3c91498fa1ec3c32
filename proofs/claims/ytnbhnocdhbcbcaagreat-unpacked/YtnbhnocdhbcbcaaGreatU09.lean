import Derived.BigQuiet
import Derived.Maps.AppendAt
import Derived.Test.YtnbhnocdhbcbcaaGreatU08
namespace Go.Proofs.YtnbhnocdhbcbcaaGreat
open Go.RowKit Tryz
open Value IntKind Ending
set_option maxHeartbeats 0
variable{x:Nat}{y I:World}{N:Hd}{S M:Xt}{k:Nat->Hd}(o L w:Nat)(b:List St)(d:Nat->Hd)(D:Xt)(a:List Xt)(i:Xt)(f:World)(H:Xt)(T:Xs)(n:Nat)(l:Fs)
def zW(p:Pl):Prop:=(-1000000000<=p.YD/\p.YD<=1000000000)/\Ml p
structure Gd(d:Db)(m:Nat):Prop where
 bnd:oQ d m
 now:lh d.Yn<=m/\∀x∈d.Yn,zW x.2
 Yt:∀s∈d.Yt,0<s.Yc.length/\s.Yc.length<=m/\s.Yn.length<=m/\lh s.Yn<=m/\(∀x∈s.Yn,zW x.2)/\zW s.YA
theorem GL(l:List (Xs×Pl))(x:Xs×Pl):lh (l++[x])=lh l+x.1.size:=by
 simp[lh]
theorem Gc{l:List St}{s:St}(h:s∈kL l x):∃a∈l,s.Yc=a.Yc/\s.Yn=a.Yn/\s.YA=a.YA:=by
 unfold kL gZ at h;rw[List.mem_mapIdx]at h;obtain⟨i,b,rfl⟩:=h;refine⟨l[i],Uu b,?_⟩;split
 ·unfold lR;split <;> exact⟨rfl,rfl,rfl⟩
 ·exact⟨rfl,rfl,rfl⟩
theorem Gd.take{d:Db}(h:Gd d x)(i:Xs)(p:Pl)(n:Nat)(B:i.size<=n)(z:1<=n)(o:zW p):Gd (aZ d i p).2 (x+n):=by
 have u:=(h.bnd.take i p).mono (m':=x+n) (by omega);have A:=h.bnd.Yn;have v:=h.bnd.Ye;refine⟨u,?_,?_⟩
 ·rcases G1 d i p with e | e | e
  ·rw[e];exact⟨by have:=h.now.1;omega,h.now.2⟩
  ·rw[e];exact⟨by simp[lh],by simp⟩
  ·rw[e];refine⟨by rw[GL];have:=h.now.1;simp only;omega,fun y g=>?_⟩;rcases UG.1 g with g | g
   ·exact h.now.2 y g
   ·rw[Uq.1 g];exact o
 ·rcases OI d i p with e | ⟨y,_,e⟩ | ⟨e,f⟩
  ·rw[e];intro s a;obtain⟨b,k,l,m,c⟩:=h.Yt s a;exact⟨b,by omega,by omega,by omega,c⟩
  ·rw[e];intro s a;obtain⟨w,j,q,r,t⟩:=Gc a;obtain⟨b,k,l,m,c⟩:=h.Yt w j;rw[q,r,t];exact⟨b,by omega,by omega,by omega,c⟩
  ·rw[e];intro s a;rcases UG.1 a with a | a
   ·obtain⟨b,k,l,m,c⟩:=h.Yt s a;exact⟨b,by omega,by omega,by omega,c⟩
   ·rw[Uq.1 a];exact⟨f,by simp only;omega,by simp only;omega,by have:=h.now.1;simp only;omega,h.now.2,o⟩
theorem Gd.empty:Gd fU 0:=⟨oQ.empty,by simp[fU,lh],by simp[fU]⟩
theorem yV(c:n<=T.size):(bQ T n).1.text.size<=(bQ T n).2-n/\(bQ T n).1.pos<=T.size:=by
 have a:=Cs T n c;have b:=tw T (skip T n) a.2;unfold bQ;simp only;split
 ·exact⟨by simp[ByteArray.size],b.2⟩
 ·split
  ·exact⟨by simp[ByteArray.size],by simp only;omega⟩
  ·refine⟨?_,by simp only;omega⟩;simp only[ByteArray.size_extract];omega
theorem xA(k:Nat)(a:k<=T.size):(bh T k).1.pos<=T.size:=by
 unfold bh;generalize T.size-k+1=f
 induction f generalizing k with
 | zero=>simp[cm,a]
 | succ f c =>
  have b:=(yV T k a).2;have d:=iq T k a;rw[cm];split
  ·split
   ·exact b
   ·exact c (bQ T k).2 d.2.1
  ·split
   ·exact b
   ·exact b
theorem Gj(k:Nat)(a:k<=T.size):(aK (aC T k).1=true->(aC T k).1.text.size<=(aC T k).2-k)/\(aC T k).1.pos<=T.size:=by
 unfold aC;generalize T.size-k+1=f
 induction f generalizing k with
 | zero=>exact⟨fun h=>by simp[dZ,aK]at h,by simp[dZ,a]⟩
 | succ f i =>
  have c:=yV T k a;have b:=iq T k a;rw[dZ];split
  ·have d:=jK T (bQ T k).2 b.2.1;have e:=xA T (bQ T k).2 b.2.1;split
   ·have:=i _ d.2;exact⟨fun h=>by have:=this.1 h;omega,this.2⟩
   ·next g=>exact⟨fun h=>absurd h g,e⟩
  ·exact⟨fun _=>c.1,c.2⟩
theorem MX(s:Xs)(p:Nat)(c:p<=1024):zW (lD T s p):=by
 have a:=Bx s p;have b:=BZ s p;unfold zW Ml lD;simp only;omega
def Pe(fs:Fs)(bg:List Bool)(m:Nat)(r:Im):Prop :=
 r.2.1.length=4/\eS fs r.2.1<=eS fs bg/\∃m',Gd r.2.2 m'/\m'+eS fs r.2.1<=m+eS fs bg
theorem J4(a:∀j,j<l.length->(ak l j).size<=1024)(x:Nat):(ak l x).size<=1024:=by
 rcases XY x l.length with h | h
 ·exact a x h
 ·have:(ak l x).size=0:=by unfold ak;rw[Uc,UT h];rfl
  omega
theorem LF(p:∀j,j<l.length->(ak l j).size<=1024)(f:Nat)(s:∀j a d m,a.length=4->Gd d m->Pe l a m (dd l f j a d))(x k:Nat)(a:List Bool)(d:Db)(m:Nat)(q:k<=(ak l x).size)(o:a.length=4)(i:Gd d m)(r:aK (aC (ak l x) k).1=true) :
  Pe l a (m+((aC (ak l x) k).2-k)) (ia l f x k a d).1/\(aC (ak l x) k).2<=(ia l f x k a d).2/\(ia l f x k a d).2<=(ak l x).size:=by
 have c:=gq (ak l x) k q;have w:=c.2.2 r;have y:=Gj (ak l x) k q;have e:=J4 l p x;unfold ia kG;split
 ·unfold oo;split
  ·exact⟨⟨o,Ue _,m,i,by simp only;omega⟩,Ue _,c.2.1⟩
  ·next j C b =>
   have g:=s j a d m o i;refine⟨⟨g.1,g.2.1,?_⟩,?_⟩
   ·obtain⟨v,z,B⟩:=g.2.2;exact⟨v,z,by simp only;omega⟩
   ·unfold sR at b;have u:=gq (ak l x) (aC (ak l x) k).2 c.2.1;have A:=gq (ak l x) (aC (ak l x) (aC (ak l x) k).2).2 u.2.1
    repeat' split at b
    all_goals first | (cases b;done) | skip
    injection b with b
    injection b with t n
    subst n;omega
 ·refine⟨⟨o,Ue _,m+((aC (ak l x) k).2-k),i.take _ _ _ (y.1 r) (by omega) (MX _ _ _ (by omega)),by simp only;omega⟩,Ue _,c.2.1⟩
theorem PM(q:∀j,j<l.length->(ak l j).size<=1024)(f:Nat):(∀x k a d m,k<=(ak l x).size->a.length=4->Gd d m->(bE l f x k a d).2.1.length=4/\eS l (bE l f x k a d).2.1<=eS l a/\∃c,Gd (bE l f x k a d).2.2 c/\c+eS l (bE l f x k a d).2.1<=m+((ak l x).size-k)+eS l a) /\
  (∀j a d m,a.length=4->Gd d m->Pe l a m (dd l f j a d)):=by
 have b:∀f,(∀x k a d m,k<=(ak l x).size->a.length=4->Gd d m->(bE l f x k a d).2.1.length=4/\eS l (bE l f x k a d).2.1<=eS l a/\∃c,Gd (bE l f x k a d).2.2 c/\c+eS l (bE l f x k a d).2.1<=m+((ak l x).size-k)+eS l a) ->
   (∀j a d m,a.length=4->Gd d m->Pe l a m (dd l f j a d)):=by
  intro f h j a d m e g;unfold dd;split
  ·exact⟨e,Ue _,m,g,Ue _⟩
  ·next y =>
   have o:a.getD j true=false:=(by simpa using y);have G:=yn l a j e o;have:=h j 0 (a.set j true) d m (UF _) (by simpa using e) g;refine⟨this.1,by omega,?_⟩;obtain⟨c,A,I⟩:=this.2.2;exact⟨c,A,by omega⟩
 induction f with
 | zero =>
  have r:∀x k a d m,k<=(ak l x).size->a.length=4->Gd d m->(bE l 0 x k a d).2.1.length=4/\eS l (bE l 0 x k a d).2.1<=eS l a/\∃c,Gd (bE l 0 x k a d).2.2 c/\c+eS l (bE l 0 x k a d).2.1<=m+((ak l x).size-k)+eS l a:=by
   intro x k a d m p e g;exact⟨e,Ue _,m,g,by simp only[bE];omega⟩
  exact⟨r,b 0 r⟩
 | succ f t =>
  have s:∀x k a d m,k<=(ak l x).size->a.length=4->Gd d m->(bE l (f+1) x k a d).2.1.length=4/\eS l (bE l (f+1) x k a d).2.1<=eS l a/\∃c,Gd (bE l (f+1) x k a d).2.2 c/\c+eS l (bE l (f+1) x k a d).2.1<=m+((ak l x).size-k)+eS l a:=by
   intro x k a d m p e g;cases n:aK (aC (ak l x) k).1 with
   | true =>
    have H:=gq (ak l x) k p;have F:=LF l q f t.2 x k a d m p e g n;obtain⟨⟨v,D,u,w,L⟩,M,E⟩:=F;cases i:((ia l f x k a d).1.1.1==0) with
    | true =>
     rw[Al l f x k a d n i];obtain⟨B,J,z,C,K⟩:=t.1 x (ia l f x k a d).2 (ia l f x k a d).1.2.1 (ia l f x k a d).1.2.2 u E v w;exact⟨B,by omega,z,C,by omega⟩
    | false =>
     rw[pO l f x k a d n i];exact⟨v,D,u,w,by omega⟩
   | false =>
    by_cases i:(aC (ak l x) k).1.YA=true/\lT d=false
    ·rw[BG l f x k a d n i.1 i.2];exact⟨e,Ue _,m,g,by simp only;omega⟩
    ·rw[xV l f x k a d n i];exact⟨e,Ue _,m,g,by simp only;omega⟩
  exact⟨s,b (f+1) s⟩
def SF(l:List St):Prop:=∀s∈l,Ml s.YA/\∀x∈s.Yn,Ml x.2
structure Tr(l:List St):Prop where
 ok:j6 l
 prf:∀i (hi:i<l.length),vQ l[i]
 lns:SF l
theorem yL(c:∀j,j<l.length->(ak l j).size<=1024)(k:Nat):Tr (bP l k).2.2.Yt:=by
 obtain⟨_,_,m,a,o⟩:=(PM l c 5000).2 k IA fU 0 rfl Gd.empty;have g:=Cd l c IA;have f:m<=4104:=by omega
 have n:=a.bnd.Yt;unfold bP;refine⟨⟨by omega,fun i b=>?_,fun i b=>?_,fun i b=>?_⟩,fun i b=>⟨?_,?_⟩,?_⟩
 ·exact(a.Yt _ (Uu b)).1
 ·have:=(a.Yt _ (Uu b)).2.1;omega
 ·have:=(a.Yt _ (Uu b)).2.2.1;omega
 ·have:=(a.Yt _ (Uu b)).2.2.2.1;omega
 ·exact fun x d=>((a.Yt _ (Uu b)).2.2.2.2.1 x d).1
 ·exact fun s e=>⟨(a.Yt s e).2.2.2.2.2.2,fun x d=>((a.Yt s e).2.2.2.2.1 x d).2⟩
def Dz(f:pJ):Array Value:=#[int i64 f.1,string f.2.YB,int i64 f.2.YC,int i64 f.2.YD]
theorem jX{f:pJ}(h:y.heap[x]?=some (.cells (Dz f) 165)) :
  y.cell? ⟨x,0,none⟩=some (int i64 f.1)/\y.cell? ⟨x,1,none⟩=some (string f.2.YB)/\y.cell? ⟨x,2,none⟩=some (int i64 f.2.YC)/\y.cell? ⟨x,3,none⟩=some (int i64 f.2.YD):=by
 refine⟨?_,?_,?_,?_⟩ <;> (rw[ah h];rfl)
theorem Dg(s:St)(d:b.length<=10000)(e:s.Yn.length<=10000):ju ⟨(b8 b n s.YA 1 (s.Yn.drop 1) (aM b n)).2,[],[],0,false⟩ 20000:=by
 have a:=(z8 b n s.YA (s.Yn.drop 1) 1 (aM b n)).2;have c:(aM b n).length<=b.length:=nU b n b.length;simp only[List.length_drop]at a;exact⟨by simp only;omega,by simp,by simp,by simp,by simp⟩
set_option maxRecDepth 100000
theorem te(hr:fy f o L b d)(ha:w<b.length)(ok:j6 b)(b6:vQ b[w]) :
  Calls prog 139 #[pointer (some ⟨o,L,none⟩),int i64 w] f fun e w'=>∃hd:Hd,
   e=returned (tuple #[slice hd.ao (lu b w b[w]).1.length hd.cap,iz (lu b w b[w]).2])/\aB w' hd (gJ (lu b w b[w]).1)/\(∀x,hd.Yv=some x->f.heap.size<=x)/\ae [] f w':=by
 have b0:=ok.len;have ce:=ok.prfs w ha;have cp:(aM b w).length<=b.length:=nU b w b.length;obtain⟨AO,bj⟩:=bm ((d (11+2*w)).ao);obtain⟨W,hW⟩:∃W,W=f.alloc (.cells #[int i64 0,string ⟨#[]⟩,int i64 0,int i64 0] 165):=⟨_,rfl⟩
 have K:=fg hW.symm;have BF:W.heap[f.heap.size]?=some (.cells bH 165):=by rw[hW];exact Ui _ _
 have HW:Xr _:=hW.symm;clear hW;go_enter func139,ntmps139;go_upto_region 1 with fail
 rw[HW.o];go_wp2_with fail;refine(bC o L w b d _ (hr.Yh K) ha).mono ?_;rintro e u ⟨rfl,U⟩;unfold eW;rw[bj.o];obtain⟨TB,ap⟩:∃TB:Array Value,TB=#[int i64 b[w].Yw,string b[w].Yx,slice (d (10+2*w)).ao b[w].Yc.length (d (10+2*w)).cap,slice AO b[w].Yn.length (d (11+2*w)).cap,string b[w].YA.YB,int i64 b[w].YA.YC,int i64 b[w].YA.YD,int i64 b[w].til]:=⟨_,rfl⟩
 obtain⟨W2,F⟩:∃W2,W2=u.alloc (.cells #[int i64 b[w].Yw,string b[w].Yx,slice (d (10+2*w)).ao b[w].Yc.length (d (10+2*w)).cap,slice AO b[w].Yn.length (d (11+2*w)).cap,string b[w].YA.YB,int i64 b[w].YA.YC,int i64 b[w].YA.YD,int i64 b[w].til] 158):=⟨_,rfl⟩
 have br:Xr _:=F.symm;have K2:ae [] f W2:=by rw[F];exact(K.trans U).alloc _
 have BT:W2.heap[u.heap.size]?=some (.cells TB 158):=by rw[F,ap];exact Ui _ _
 have ba:W2.heap[f.heap.size]?=some (.cells bH 165):=by rw[F];exact(bM.alloc _).get (U.get BF (by simp)) (by simp)
 have cq:f.heap.size<u.heap.size:=by have:=aj (U.get BF (by simp));omega
 have ct:=aj BT;have z:Xr _:=ap;clear F ap;go_upto_region 2 with fail
 rw[br.o];clear HW br U BF K;have az:=K2.size;have b1:=hr.Yh K2;go_wp2_with fail;refine(nR o L w b d _ b1 ha ok).mono ?_;rintro e I ⟨s,rfl,bz,bx,G⟩
 have CM:eM (I.alloc (.cells #[slice s.ao (aM b w).length s.cap,slice none 0 0,slice none 0 0,int i64 0,bool false] 279)) I.heap.size ⟨aM b w,[],[],0,false⟩ (zJ s):=Pq (cs:=mu ⟨aM b w,[],[],0,false⟩ (zJ s)) (rows:=yO ⟨aM b w,[],[],0,false⟩) bz (by
  intro i
  match i with
  | 0=>exact Uj _ _ _ _
  | 1=>exact Uj _ _ _ _
  | m+2=>exact Uj _ _ _ _)
 have K4:ae [] f (I.alloc (.cells #[slice s.ao (aM b w).length s.cap,slice none 0 0,slice none 0 0,int i64 0,bool false] 279)):=(K2.trans G).alloc _;have ag:(I.alloc (.cells #[slice s.ao (aM b w).length s.cap,slice none 0 0,slice none 0 0,int i64 0,bool false] 279)).heap[u.heap.size]?=some (.cells TB 158):=(bM.alloc _).get (G.get BT (by simp)) (by simp);have af:(I.alloc (.cells #[slice s.ao (aM b w).length s.cap,slice none 0 0,slice none 0 0,int i64 0,bool false] 279)).heap[f.heap.size]?=some (.cells bH 165):=(bM.alloc _).get (G.get ba (by simp)) (by simp);have cu:W2.heap.size<=I.heap.size:=G.size;have n:∀x,gF (zJ s) x->W2.heap.size<=x:=fun x a=>bx x (Qn a);obtain⟨W4,ar⟩:∃W4,W4=I.alloc (.cells #[slice s.ao (aM b w).length s.cap,slice none 0 0,slice none 0 0,int i64 0,bool false] 279):=⟨_,rfl⟩
 rw[<-ar]at CM K4 ag af;have bs:Xr _:=ar.symm;clear ar bz bx G BT ba;go_upto_region 3 with fail
 rw[bs.o];clear bs;have b5:=Dg b w b[w] b0 ce;have bw:=(z8 b w b[w].YA (b[w].Yn.drop 1) 1 (aM b w)).1;have R:=zP I.heap.size ⟨aM b w,[],[],0,false⟩ (zJ s) o L w b d f W4 CM hr K4 ha ok (by simp only;omega) (by omega) (fun x a=>Un az (n x a));have bk:Xr (Ab b w b[w]=CP (b8 b w b[w].YA 1 (b[w].Yn.drop 1) (aM b w)).1.2 (b[w].Yn.drop (b8 b w b[w].YA 1 (b[w].Yn.drop 1) (aM b w)).1.1) ⟨(b8 b w b[w].YA 1 (b[w].Yn.drop 1) (aM b w)).2,[],[],0,false⟩):=rfl;simp only at R;have cl:=bn.lt CM;simp only[List.length_drop]at bw;generalize b8 b w b[w].YA 1 (b[w].Yn.drop 1) (aM b w)=BL at *;obtain⟨⟨nx,bf,bp⟩,ns⟩:=BL;simp only at R bk b5 bw;go_wp2_with fail;refine R.mono ?_;rintro e g ⟨rfl,H5,D5,Y⟩;unfold iz
 have K5:=K4.ofP Y.1 (fun x a=>by
  rcases a with e | e
  ·omega
  ·exact Un az (n x e))
 have n1:¬gF H5 f.heap.size:=Y.fresh _ (by omega) (fun hm=>by have:=n _ hm;omega);have n2:¬gF H5 u.heap.size:=Y.fresh _ (by omega) (fun hm=>by have:=n _ hm;omega);have nb:∀x,gF H5 x->f.heap.size<=x:=fun x a=>by
  rcases Y.2 x a with e | e
  ·exact Un az (n x e)
  ·omega
 have be:=Y.1.get ag (by rintro (e | e);omega;have:=n _ e;omega);have bc:=Y.1.get af (by rintro (e | e);omega;have:=n _ e;omega);have n3:¬gF H5 g.heap.size:=fun hm=>by have:=bn.inlt D5 hm;omega
 have cr:=Y.1.size;obtain⟨W6,S⟩:∃W6,W6=g.alloc (.cells #[int i64 bf,string bp.YB,int i64 bp.YC,int i64 bp.YD] 165):=⟨_,rfl⟩
 have k6:=fg S.symm;have a7:W6.heap[g.heap.size]?=some (.cells (Dz (bf,bp)) 165):=by rw[S];exact Ui _ _
 have C6:=eM.Yh D5 k6;have bg:=k6.get be (by simp);have bd:=k6.get bc (by simp);have K6:=K5.trans k6;have bv:Xr _:=S.symm;clear S;go_upto_region 4 with fail
 rw[bv.o];clear bv ag af be bc D5 Y R CM K4 K5 b1 k6;go_wp2
 go_loopg [10] (b[w].Yn.length-nx) (fun gk iv wr=>∃(i:Nat) (l:lK) (y:Nat->Hd) (k:pJ) (N:Nat),i<=10001/\gk=b[w].Yn.length-i/\iv=int i64 i/\ju l N/\N+lh (b[w].Yn.drop i)<=1020000/\Xr (Ab b w b[w]=CP k (b[w].Yn.drop i) l)/\eM wr I.heap.size l y/\(∀x,gF y x->f.heap.size<=x)/\ae [] f wr /\
  wr.heap[f.heap.size]?=some (.cells bH 165)/\wr.heap[u.heap.size]?=some (.cells TB 158)/\wr.heap[g.heap.size]?=some (.cells (Dz k) 165)/\¬gF y f.heap.size/\¬gF y u.heap.size/\¬gF y g.heap.size)
 ·exact⟨nx,_,H5,(bf,bp),20000,by omega,by omega,rfl,b5,by have:=EG b[w].Yn nx;have:=b6.size;omega,bk,C6,nb,K6,bd,bg,a7,n1,n2,n3⟩
 obtain⟨i,l,y,k,N,hi,hg,rfl,ad,hN,hR,hC,ax,KW,B1,X,B9,n1,n2,n3⟩:=hrel;clear C6 nb K6 bd bg a7;have cf:=hr.Yh KW;have b2:=aj B1;have b3:=aj X;have b4:=aj B9;have E:=cf.Yt.prfs w b[w] (Ub ha);obtain⟨f0,f1,f2,f3⟩:=jX B9;have yf:=am B9;obtain⟨J,M,O,P⟩:=dC B1;have yz:=am B1;have co:((i:Int) ≥ 0):=by omega
 obtain⟨aS,aT,a4,a5,a6⟩:=hC.cells;by_cases H:i<b[w].Yn.length
 ·cases c:(k.1==0)
  ·have t3:wr.cell? ⟨u.heap.size,3,none⟩=some (slice AO b[w].Yn.length (d (11+2*w)).cap):=(by rw[ah X,z.o];rfl);have p:Xr (lu b w b[w]=([],k)):=cM (by unfold lu;rw[hR.o,Jb _ _ _ c];simp[nP,c]);have q:(k.1 != 0)=true:=(by simp[bne,c]);clear hR E;(go_upto_region 13 with fail);go_region
   all_goals go_wp2
   all_goals exact Um (v:=tuple #[slice none 0 0,agg #[int i64 k.1,string k.2.YB,int i64 k.2.YC,int i64 k.2.YD]]) (by simp[results,results139,go_sem,J,M,O,P]) rfl ⟨⟨none,0⟩,by rw[p.o];rfl,by rw[p.o];exact Uj _ _ _ _,by intro x a;simp[Hd.Yv]at a,(lS KW (Ue _) _ _ _ _).drew⟩
  ·obtain⟨gp,ep,ck,cb,d0,d1,d2,d3⟩:=E.word i H;obtain rfl:AO=some ⟨gp,0,none⟩:=bj.o.symm.trans ep;have t3:wr.cell? ⟨u.heap.size,3,none⟩=some (slice (some ⟨gp,0,none⟩) b[w].Yn.length (d (11+2*w)).cap):=(by rw[ah X,z.o];rfl);clear ep E;have ac:=b6.YD b[w].Yn[i] (Uu H);have ch:=GK b[w].Yn i H;have al:Xr _:=hR.o.trans (Sc k b[w].Yn l i H c);have an:=A8 b[w].Yn[i].1 b[w].Yn[i].2 ad;have TW:=Cv I.heap.size l y b[w].Yn[i].1 b[w].Yn[i].2.YB b[w].Yn[i].2.YC b[w].Yn[i].2.YD wr hC N ad (by omega) ac;clear hR;generalize b[w].Yn[i]=wd at *;obtain⟨t,pf,pl,pc⟩:=wd;simp only at d0 d1 d2 d3 al an TW ac ch;generalize mq t ⟨pf,pl,pc⟩ l=Q at *;obtain⟨⟨qf,qp⟩,c2⟩:=Q;simp only at al an TW;unfold iz at TW;clear J M O P yz aS aT a4 a5 a6;go_wp2_with fail;refine TW.mono ?_;rintro e w7 ⟨rfl,H7,D7,Z⟩;have bT:∀x,(x=I.heap.size∨gF y x)->f.heap.size<=x:=by
    rintro x (e | e)
    ·omega
    ·exact ax x e
   have K7:=KW.ofP Z.1 bT;have q1:=Z.1.get B1 (by rintro (e | e);omega;exact n1 e);have q2:=Z.1.get X (by rintro (e | e);omega;exact n2 e);have q9:=Z.1.get B9 (by rintro (e | e);omega;exact n3 e);have m1:=Z.fresh f.heap.size b2 n1;have m2:=Z.fresh u.heap.size b3 n2;have m3:=Z.fresh g.heap.size b4 n3;have y9:=am q9;have m4:∀x,gF H7 x->f.heap.size<=x:=fun x a=>by
    rcases Z.2 x a with e | e
    ·exact ax x e
    ·omega
   have kk:=fun a0 a1 a2 a3=>jY (w:=w7) (r:=g.heap.size) a0 a1 a2 a3;have ai:Xr _:=kk;have ca:Xr (∀a0 a1 a2 a3,((((w7.setCell ⟨g.heap.size,0,none⟩ a0).setCell ⟨g.heap.size,1,none⟩ a1).setCell ⟨g.heap.size,2,none⟩ a2).setCell ⟨g.heap.size,3,none⟩ a3).heap[g.heap.size]?=some (.cells #[a0,a1,a2,a3] 165)):=by
    intro a0 a1 a2 a3;rw[ab (ab (ab (ab q9 _ _) _ _) _ _)];rfl
   clear kk bT d0 d1 d2 d3 t3 f0 f1 f2 f3 yf;obtain⟨g0,g1,g2,g3⟩:=jX q9;go_wp2;go_roundg (b[w].Yn.length-(i+1))
   ·exact⟨i+1,c2,H7,(qf,qp),N+t.size,by omega,rfl,by go_num,an,by omega,al.o,bn.Yu D7 (ai.o _ _ _ _) (by simp;omega) (by intro x a;simp;rintro rfl;exact m3 a),m4,lS K7 (by omega) _ _ _ _,(ai.o _ _ _ _).get q1 (by simp;omega),(ai.o _ _ _ _).get q2 (by simp;omega),ca.o _ _ _ _,m1,m2,m3⟩
   omega
 ·have t3:wr.cell? ⟨u.heap.size,3,none⟩=some (slice AO b[w].Yn.length (d (11+2*w)).cap):=by rw[ah X,z.o];rfl
  cases c:(k.1==0)
  ·have p:Xr (lu b w b[w]=([],k)):=(by show _=_;unfold lu;rw[hR.o,Jb _ _ _ c];simp[nP,c]);have q:(k.1 != 0)=true:=(by simp[bne,c]);clear hR E;(go_upto_region 13 with fail);go_region
   all_goals go_wp2
   all_goals exact Um (v:=tuple #[slice none 0 0,agg #[int i64 k.1,string k.2.YB,int i64 k.2.YC,int i64 k.2.YD]]) (by simp[results,results139,go_sem,J,M,O,P]) rfl ⟨⟨none,0⟩,by rw[p.o];rfl,by rw[p.o];exact Uj _ _ _ _,by intro x a;simp[Hd.Yv]at a,(lS KW (Ue _) _ _ _ _).drew⟩
  ·have t4:wr.cell? ⟨u.heap.size,4,none⟩=some (string b[w].YA.YB):=(by rw[ah X,z.o];rfl);have t5:wr.cell? ⟨u.heap.size,5,none⟩=some (int i64 b[w].YA.YC):=(by rw[ah X,z.o];rfl);have t6:wr.cell? ⟨u.heap.size,6,none⟩=some (int i64 b[w].YA.YD):=(by rw[ah X,z.o];rfl);have HE:Xr (lu b w b[w]=nP b[w].YA (dh,l)):=cM (by unfold lu;rw[hR.o,Qo _ _ _ _ H c]);have q:(k.1 != 0)=false:=(by simp[bne,c]);clear hR E;by_cases T:l.Yj=0
   ·have cc:¬((l.Yj:Int) > 0):=(by omega);by_cases V:l.steps.length=0
    ·have cj:((l.steps.length:Int)==0)=true:=(by simp[V]);have p:Xr (lu b w b[w]=([],(1,b[w].YA))):=cM (by rw[HE.o];simp[nP,dh,T,V]);obtain⟨D,j⟩:∃D,D=(((wr.setCell ⟨g.heap.size,0,none⟩ (int i64 1)).setCell ⟨g.heap.size,1,none⟩ (string b[w].YA.YB)).setCell ⟨g.heap.size,2,none⟩ (int i64 b[w].YA.YC)).setCell ⟨g.heap.size,3,none⟩ (int i64 b[w].YA.YD):=⟨_,rfl⟩
     have k8:ae [g.heap.size] wr D:=(by rw[j];exact jY _ _ _ _);have K8:ae [] f D:=(by rw[j];exact lS KW (by omega) _ _ _ _);have B:D.heap[g.heap.size]?=some (.cells (Dz (1,b[w].YA)) 165):=by
      rw[j,ab (ab (ab (ab B9 _ _) _ _) _ _)];rfl
     have A:=k8.get B1 (by simp;omega);have C:Xr _:=j.symm;clear j k8;(go_upto_region 12 with fail);rw[C.o];clear C f0 f1 f2 f3 yf J M O P yz aS aT a4 a5 a6 t3 t4 t5 t6 c q;obtain⟨f0,f1,f2,f3⟩:=jX B;have yf:=am B;obtain⟨J,M,O,P⟩:=dC A;have yz:=am A;(go_upto_region 13 with fail);go_region
     all_goals go_wp2
     all_goals exact Um (v:=tuple #[slice none 0 0,agg #[int i64 1,string b[w].YA.YB,int i64 b[w].YA.YC,int i64 b[w].YA.YD]]) (by simp[results,results139,go_sem,J,M,O,P]) rfl ⟨⟨none,0⟩,by rw[p.o];rfl,by rw[p.o];exact Uj _ _ _ _,by intro x a;simp[Hd.Yv]at a,(lS K8 (Ue _) _ _ _ _).drew⟩
    ·have cj:((l.steps.length:Int)==0)=false:=Uz.2 (by omega);have p:Xr (lu b w b[w]=(l.steps,dh)):=cM (by rw[HE.o];simp[nP,dh,T,V]);have bo:Xr (aB wr (y 2) (gJ l.steps)):=bn.YF hC 2;have bl:Xr (∀x,(y 2).Yv=some x->f.heap.size<=x/\x≠f.heap.size):=fun x a=>⟨ax x ⟨2,a⟩,fun e=>n1 ⟨2,e ▸ a⟩⟩
     clear V T;go_wp2;exact Um (v:=tuple #[slice (y 2).ao l.steps.length (y 2).cap,agg #[int i64 0,string ⟨#[]⟩,int i64 0,int i64 0]]) (by simp[results,results139,go_sem,J,M,O,P]) rfl
      ⟨y 2,by rw[p.o];rfl,by rw[p.o];exact bo.o.Ym (fun x a=>(jY (r:=f.heap.size) _ _ _ _).block x (bo.o.lt a) (by simp;exact(bl.o x a).2)),fun x a=>(bl.o x a).1,lS KW (Ue _) _ _ _ _⟩
   ·have cc:(l.Yj:Int) > 0:=(by omega);have p:Xr (lu b w b[w]=([],(4,b[w].YA))):=cM (by rw[HE.o];simp[nP,dh,T]);obtain⟨D,j⟩:∃D,D=(((wr.setCell ⟨g.heap.size,0,none⟩ (int i64 4)).setCell ⟨g.heap.size,1,none⟩ (string b[w].YA.YB)).setCell ⟨g.heap.size,2,none⟩ (int i64 b[w].YA.YC)).setCell ⟨g.heap.size,3,none⟩ (int i64 b[w].YA.YD):=⟨_,rfl⟩
    have k8:ae [g.heap.size] wr D:=(by rw[j];exact jY _ _ _ _);have K8:ae [] f D:=(by rw[j];exact lS KW (by omega) _ _ _ _);have B:D.heap[g.heap.size]?=some (.cells (Dz (4,b[w].YA)) 165):=by
     rw[j,ab (ab (ab (ab B9 _ _) _ _) _ _)];rfl
    have A:=k8.get B1 (by simp;omega);have C:Xr _:=j.symm;clear j k8;(go_upto_region 10 with fail);rw[C.o];clear C f0 f1 f2 f3 yf J M O P yz aS aT a4 a5 a6 t3 t4 t5 t6 c q;obtain⟨f0,f1,f2,f3⟩:=jX B;have yf:=am B;obtain⟨J,M,O,P⟩:=dC A;have yz:=am A;(go_upto_region 13 with fail);go_region
    all_goals go_wp2
    all_goals exact Um (v:=tuple #[slice none 0 0,agg #[int i64 4,string b[w].YA.YB,int i64 b[w].YA.YC,int i64 b[w].YA.YD]]) (by simp[results,results139,go_sem,J,M,O,P]) rfl ⟨⟨none,0⟩,by rw[p.o];rfl,by rw[p.o];exact Uj _ _ _ _,by intro x a;simp[Hd.Yv]at a,(lS K8 (Ue _) _ _ _ _).drew⟩
def vk(s:St):Bool :=
 match s.Yn with
 | []=>false
 | (t,_) :: _=>t.toList == [40]
def bW(l:List St)(a:Nat)(s:St):List jg×pJ:=if vk s=true then lu l a s else ee l a s.YA s.Yn []
theorem Ay(hr:fy f o L b d)(E:w<b.length)(N:j6 b)(ad:vQ b[w]) :
  Calls prog 101 #[pointer (some ⟨o,L,none⟩),int i64 w] f fun e w'=>∃a:Hd,
   e=returned (tuple #[slice a.ao (bW b w b[w]).1.length a.cap,iz (bW b w b[w]).2])/\aB w' a (gJ (bW b w b[w]).1)/\(∀x,a.Yv=some x->f.heap.size<=x)/\ae [] f w':=by
 have ai:=N.prfs w E;obtain⟨AO,F⟩:=bm ((d (11+2*w)).ao);obtain⟨W,M⟩:∃W,W=f.alloc (.cells #[int i64 0,string ⟨#[]⟩,int i64 0,int i64 0] 165):=⟨_,rfl⟩
 have K:=fg M.symm;have Q:W.heap[f.heap.size]?=some (.cells bH 165):=by rw[M];exact Ui _ _
 have HW:Xr _:=M.symm;clear M;go_enter func101,ntmps101;go_upto_region 1 with fail
 rw[HW.o];go_wp2_with fail;refine(bC o L w b d _ (hr.Yh K) E).mono ?_;rintro e w1 ⟨rfl,l⟩;unfold eW;rw[F.o];obtain⟨D,j⟩:∃D,D=w1.alloc (.cells #[int i64 b[w].Yw,string b[w].Yx,slice (d (10+2*w)).ao b[w].Yc.length (d (10+2*w)).cap,slice AO b[w].Yn.length (d (11+2*w)).cap,string b[w].YA.YB,int i64 b[w].YA.YC,int i64 b[w].YA.YD,int i64 b[w].til] 158):=⟨_,rfl⟩
 have G:Xr _:=j.symm;have S:ae [] f D:=by rw[j];exact(K.trans l).alloc _
 have BT:=fE j.symm;have R:D.heap[f.heap.size]?=some (.cells bH 165):=by rw[j];exact(bM.alloc _).get (l.get Q (by simp)) (by simp)
 have al:f.heap.size<w1.heap.size:=by have:=aj (l.get Q (by simp));omega
 have an:=aj BT;clear j;go_upto_region 2 with fail
 rw[G.o];clear HW G l Q K;obtain⟨-,-,-,t3,-⟩:=zE BT;have m:=hr.Yh S;have k:=m.Yt.prfs w b[w] (Ub E)
 have g:Xr (∀(c:World) (fl:pJ) (a:Hd) (O:List jg),ae [] D c->(∀x,a.Yv=some x->D.heap.size<=x)->aB c a (gJ O)->bW b w b[w]=(O,fl) ->
   c.frozen? ⟨f.heap.size,0,none⟩=false/\c.frozen? ⟨f.heap.size,1,none⟩=false/\c.frozen? ⟨f.heap.size,2,none⟩=false/\c.frozen? ⟨f.heap.size,3,none⟩=false /\
   c.cell? ⟨f.heap.size,0,none⟩=some (int i64 0)/\c.cell? ⟨f.heap.size,1,none⟩=some (string ⟨#[]⟩)/\c.cell? ⟨f.heap.size,2,none⟩=some (int i64 0)/\c.cell? ⟨f.heap.size,3,none⟩=some (int i64 0) /\
   ∀T U V X,Xr (ae [] f ((((c.setCell ⟨f.heap.size,0,none⟩ T).setCell ⟨f.heap.size,1,none⟩ U).setCell ⟨f.heap.size,2,none⟩ V).setCell ⟨f.heap.size,3,none⟩ X)/\aB ((((c.setCell ⟨f.heap.size,0,none⟩ T).setCell ⟨f.heap.size,1,none⟩ U).setCell ⟨f.heap.size,2,none⟩ V).setCell ⟨f.heap.size,3,none⟩ X) a (gJ O))):=by
  intro c fl a O s ac I he;have B9:=s.get R (by simp);obtain⟨z,A,B,C⟩:=dC B9;have P:=am B9;refine⟨P 0,P 1,P 2,P 3,z,A,B,C,fun T U V X=>⟨lS (S.trans s) (Ue _) _ _ _ _,I.Ym (fun x q=>(jY (r:=f.heap.size) _ _ _ _).block x (I.lt q) (by simp;rintro rfl;have:=ac _ q;omega))⟩⟩
 have y:=S.size;rcases hpr:b[w].Yn with _ | ⟨⟨t,p⟩,r⟩
 ·have H:b[w].Yn.length=0:=by rw[hpr];rfl
  have i:Xr (bW b w b[w]=ee b w b[w].YA b[w].Yn []):=cM (by simp[bW,vk,hpr]);rw[H]at t3;clear hpr k;go_wp2_with (go_at_call 140;refine(qU o L w b d _ m E N).mono ?_;rintro e c ⟨a,rfl,J,u,s⟩;obtain⟨y0,y1,y2,y3,z,A,B,C,n⟩:=g.o c _ a _ s u J i.o;unfold iz);exact Um (v:=tuple #[slice a.ao (ee b w b[w].YA b[w].Yn []).1.length a.cap,iz (ee b w b[w].YA b[w].Yn []).2]) (by simp[results,results101,go_sem,z,A,B,C,iz]) rfl
   ⟨a,by rw[i.o],by rw[i.o];exact(n _ _ _ _).o.2,fun x q=>Un y (u x q),(n _ _ _ _).o.1⟩
 ·have H:b[w].Yn.length=r.length+1:=by rw[hpr];rfl
  obtain⟨gp,Z,af,Y,d0,-,-,-⟩:=k.word 0 (by omega);obtain rfl:AO=some ⟨gp,0,none⟩:=F.o.symm.trans Z;have ag:((b[w].Yn.length:Int) > 0):=by omega
  simp only[hpr,List.getElem_cons_zero]at d0;cases hc:(t.toList == [40])
  ·have i:Xr (bW b w b[w]=ee b w b[w].YA b[w].Yn []):=(by show _=_;simp[bW,vk,hpr,hc]);clear hpr k Z;go_wp2_with (go_at_call 140;refine(qU o L w b d _ m E N).mono ?_;rintro e c ⟨a,rfl,J,u,s⟩;obtain⟨y0,y1,y2,y3,z,A,B,C,n⟩:=g.o c _ a _ s u J i.o;unfold iz);exact Um (v:=tuple #[slice a.ao (ee b w b[w].YA b[w].Yn []).1.length a.cap,iz (ee b w b[w].YA b[w].Yn []).2]) (by simp[results,results101,go_sem,z,A,B,C,iz]) rfl
    ⟨a,by rw[i.o],by rw[i.o];exact(n _ _ _ _).o.2,fun x q=>Un y (u x q),(n _ _ _ _).o.1⟩
  ·have i:Xr (bW b w b[w]=lu b w b[w]):=(by show _=_;simp[bW,vk,hpr,hc]);clear hpr k Z;go_wp2_with (go_at_call 139;refine(te o L w b d _ m E N ad).mono ?_;rintro e c ⟨a,rfl,J,u,s⟩;obtain⟨y0,y1,y2,y3,z,A,B,C,n⟩:=g.o c _ a _ s u J i.o;unfold iz);exact Um (v:=tuple #[slice a.ao (lu b w b[w]).1.length a.cap,iz (lu b w b[w]).2]) (by simp[results,results101,go_sem,z,A,B,C,iz]) rfl
    ⟨a,by rw[i.o],by rw[i.o];exact(n _ _ _ _).o.2,fun x q=>Un y (u x q),(n _ _ _ _).o.1⟩
theorem Nu:(prog.info? 61).map (fun i=>(i.zero,i.size,i.bytes))=some (some (slice none 0 0),1,24):=by kernel_rfl
structure Ex where
 hd:Hd
 xs:Xt
def xK(e:Ex):Value:=slice e.hd.ao e.xs.length e.hd.cap
def Dp(l:List Ex):List Value:=l.map xK
def im(l:List Ex):ew:=⟨61,1,l.length,Dp l⟩
theorem vB(l:List Ex)(e:Ex):(⟨(im l).e,(im l).size,(im l).n+1,(im l).xs++[xK e]⟩:ew)=im (l++[e]):=by simp[im,Dp]
theorem tW(l:List Ex)(k:Nat)(h:k<l.length):(Dp l)[k]?=some (xK l[k]):=by simp[Dp,h]
theorem lj.keptP{P:Nat->Prop}(v:lj y N S)(k:gy P y I)(f:∀x,N.Yv=some x->¬P x):lj I N S:=by
 rcases v with v | ⟨g,b,a,t,c,d,e⟩
 ·exact Us v
 ·exact Uo ⟨g,b,a,t,c,k.get d (f g (by unfold Hd.Yv;rw[c];rfl)),e⟩
structure CR(w:World)(b:Nat)(H:Nat->Hd)(e:Ex):Prop where
 view:lj w e.hd e.xs
 adr:∃ad,e.hd.ao=some ad
 far:∀x,e.hd.Yv=some x->x<w.heap.size/\x≠b/\¬gF H x
theorem CR.turned{f:Nat->Hd}{e:Ex}(h:CR y x k e)(t:aw x y k I f):CR I x f e:=by
 refine⟨h.view.keptP t.1 (fun a d=>?_),h.adr,fun a d=>?_⟩
 ·obtain⟨_,b,c⟩:=h.far a d;rintro (e | e)
  ·exact b e
  ·exact c e
 ·obtain⟨g,b,c⟩:=h.far a d;exact⟨Ul g t.1.size,b,t.fresh a g c⟩
theorem CR.Yh{e:Ex}(h:CR y x k e)(b:ae [] y I):CR I x k e :=
 ⟨h.view.Yh b,h.adr,fun c a=>⟨Ul (h.far c a).1 b.size,(h.far c a).2⟩⟩
def rg(vs:Xt)(be:List Ex):Nat->ew
 | 0=>aD vs
 | 1=>im be
 | _+2=>aD []
def qc(vs:Xt)(be:List Ex)(H:Nat->Hd):List Value:=[slice (H 0).ao vs.length (H 0).cap,slice (H 1).ao be.length (H 1).cap]
structure nL(w:World)(b:Nat)(vs:Xt)(be:List Ex)(H:Nat->Hd):Prop where
 bag:bn w b 343 (qc vs be H) (rg vs be) H
 len:be.length=vs.length
 exs:∀e∈be,CR w b H e
theorem nL.Yh{a:List Ex}(h:nL y x S a k)(b:ae [] y I):nL I x S a k:=⟨h.bag.Yh b,h.len,fun e c=>(h.exs e c).Yh b⟩
theorem nL.cells{a:List Ex}(h:nL y x S a k) :
  y.cell? ⟨x,0,none⟩=some (slice (k 0).ao S.length (k 0).cap)/\y.cell? ⟨x,1,none⟩=some (slice (k 1).ao a.length (k 1).cap):=⟨h.bag.cell 0,h.bag.cell 1⟩
def zG(a b:Xt):Bool:=a.map (·.toList)==b.map (·.toList)
theorem Pz(h:S.length≠M.length):zG S M=false:=by
 unfold zG;rw[Uz];intro e;have:=congrArg List.length e;simp at this;exact h this
theorem Rv(a:n<S.length)(b:n<M.length)(h:(S[n].toList==M[n].toList)=false):zG S M=false:=by
 unfold zG;rw[Uz]at h ⊢;intro e;have:=congrArg (fun l=>l[n]?) e;simp[a,b]at this;exact h this
theorem IG(c:S.length=M.length)(h:∀k (a:k<S.length) (b:k<M.length),(S[k].toList==M[k].toList)=true):zG S M=true:=by
 unfold zG;rw[Vt];apply Xj
 ·simpa using c
 ·intro k a b;simp at a b ⊢;exact Vt.1 (h k a b)
set_option maxRecDepth 512
theorem Ae(p q:Hd)(a b:Xt)(w:World)(Y:lj w p a)(Z:lj w q b)(U:a.length<=1073741824)(V:b.length<=1073741824) :
  Calls prog 212 #[slice p.ao a.length p.cap,slice q.ao b.length q.cap] w fun e w'=>e=returned (bool (zG a b))/\ae [] w w':=by
 obtain⟨K,A⟩:=p;obtain⟨L,B⟩:=q;by_cases f:a.length=b.length
 ·have X:((a.length:Int) != b.length)=false:=by simp[f]
  by_cases H:a.length=0
  ·have d:Xr (zG a b=true):=IG f (fun k p q=>by omega);go_enter func212,ntmps212;go_wp2;refine Wd 1 ?_;rw[Wt];go_wp2;go_ret;exact⟨aE d.o.symm,ae.refl _ _⟩
  ·rcases Y with rfl | ⟨g,u,M,t,D,E,y,N,O⟩
   ·simp at H
   rcases Z with rfl | ⟨R,l,C,t',F,G,z,P,Q⟩
   ·simp at f;simp[f]at H
   simp only at D F N O P Q;subst D;subst F;go_enter func212,ntmps212;go_wp2
   go_loopg [5] a.length (fun gk i wr=>∃k:Nat,k<=a.length/\gk=a.length-k/\i=int i64 k/\Xr (∀i (v:i<a.length) (x:i<b.length),i<k->(a[i].toList==b[i].toList)=true)/\ae [] w wr)
   ·exact⟨0,by omega,by omega,rfl,fun i _ _ T=>by omega,ae.refl _ _⟩
   obtain⟨k,hk,hg,rfl,c,r⟩:=hrel;by_cases s:k<a.length
   ·have j:k<b.length:=(by omega);have c1:wr.cell? ⟨g,u+k,none⟩=some (string a[k]):=(ah (r.get E (by simp)) (u+k)).trans (y k a[k] (Ub s));have c2:wr.cell? ⟨R,l+k,none⟩=some (string b[k]):=(ah (r.get G (by simp)) (l+k)).trans (z k b[k] (Ub j));have W:(k:Int)<a.length:=(by omega);have J:(k:Int)<b.length:=(by omega);have m:Xr _:=Rv k s j;have n:Xr ((a[k].toList==b[k].toList)=true->∀i (v:i<a.length) (x:i<b.length),i<k+1->(a[i].toList==b[i].toList)=true):=by
     intro S i v x T;by_cases e:i=k
     ·subst e;exact S
     ·exact c.o i v x (by omega)
    clear c y z E G;cases I:(a[k].toList==b[k].toList)
    ·have d:Xr _:=m.o I;clear m n f;(go_upto_region 6 with fail);go_quiet (fail);go_wp2;go_ret;exact⟨aE d.o.symm,r.drewN _⟩
    ·have d:Xr _:=n.o I;clear m n f;(go_upto_region 6 with fail);go_quiet (fail);go_wp2;go_roundg (a.length-(k+1))
     ·exact⟨k+1,by omega,rfl,by go_num,d.o,r.drewN _⟩
     omega
   ·have d:Xr (zG a b=true):=IG f (fun i v x=>c.o i v x (by omega));clear c y z;go_wp2;go_ret;exact⟨aE d.o.symm,r⟩
 ·have d:Xr (zG a b=false):=Pz f;have X:((a.length:Int) != b.length)=true:=by simp[bne];omega
  go_enter func212,ntmps212;go_wp2;go_ret;exact⟨aE d.o.symm,ae.refl _ _⟩
theorem Ly(s:List Ex)(m:Nat->Hd)(x:Xs)(d:World)(h:nL d w H s m)(F:H.length<=1073741824) :
  Calls prog 279 #[pointer (some ⟨w,0,none⟩),string x] d fun e A=>e=returned (int i64 (oM (mN H x)))/\A=d:=by
 obtain⟨t,u⟩:=h.cells;have l:=h.len;have a:aB d (m 0) (aD H):=h.bag.YF 0;rw[l]at u;go_enter func279,ntmps279;go_wp2
 go_loopg [5] H.length (fun g i wr=>∃k:Nat,k<=H.length/\g=H.length-k/\i=int i64 k/\Xr (∀i,i<k->((H.getD i ⟨#[]⟩).toList==x.toList)=false)/\wr=d)
 ·exact⟨0,by omega,by omega,rfl,fun i q=>by omega,rfl⟩
 obtain⟨k,E,D,rfl,b,rfl⟩:=hrel;by_cases c:k<H.length
 ·rcases a.Ys with ⟨_,z,_⟩ | ⟨g,v,n,-,C,-⟩
  ·have:H.length=0:=z;omega
  ·have B:=a.cell n k (string H[k]) (uJ H k c);rw[n]at t;have f:Xr _:=wT H k c;generalize H[k]=y at *;cases p:(y.toList==x.toList)
   ·have r:Xr (∀i,i<k+1->((H.getD i ⟨#[]⟩).toList==x.toList)=false):=by
     intro i q;by_cases e:i=k
     ·subst e;rw[f.o];exact p
     ·exact b.o i (by omega)
    clear f h a;go_wp2;go_roundg (H.length-(k+1))
    ·exact⟨k+1,by omega,rfl,by go_num,r,rfl⟩
    omega
   ·have j:Xr (mN H x=some k):=po c (by rw[f.o];exact p) b.o;clear f h a;go_wp2;go_ret;exact⟨T0 (by rw[j.o];rfl),rfl⟩
 ·have j:Xr (mN H x=none):=nY (fun i q=>b.o i (by omega));clear h a;go_wp2;go_ret;exact⟨T0 (by rw[j.o];rfl),rfl⟩
theorem uM{P:Program}{A:Array Oper}{p:List Oper}{o:Oper}{a:Act}{Q:Exit->Act->World->Prop}(V:o.guard=none)(s x:Operand)(t:TypeId)(F:o.op=Op.call { callee:=Callee.builtin Builtin.append,args:=#[s,x],argTypes:=#[t,t] })(i:TypeInfo)(z:Value)(d:Nat)(h:Hd)(r:ew)(L:P.underlying t=some (.slice r.e))(M:P.info? r.e=some i)(N:i.zero=some z)(O:i.size=r.size)(R:i.bytes=d)(S:z.cells.size=r.size)(T:0<r.size)(X:a.eval s=slice h.ao r.n h.cap)(y:aB f h r)(C:Addr)(m c:Nat)(b:List Value)(Y:a.eval x=slice (some C) m c)(W:b.length=m*r.size)(U:∀j u,b[j]?=some u->f.cell? (C.add j)=some u)(E:∀u∈b,u.oneCell'=true)(J:r.n+m<=maxLen)(K:(r.n+m)*d<=140737488355328)(I:∀k q,aB q k ⟨r.e,r.size,r.n+m,r.xs++b⟩->f.grownBy q h.Yv->(k.Yv=h.Yv∨k.Yv=some f.heap.size)->wpList P A Q p (a.put o.dst (slice k.ao (r.n+m) k.cap)) q) :
  wpList P A Q (o :: p) a f:=by
 refine wpList_append_own_at f V s x t F 0 r.e i z r.size d L M N O R S T (slice h.ao r.n h.cap) r.n r.xs X y C m c b Y W U E J K (UF _) ?_;intro v' q G H Z B;rw[Ci]at H B;rcases G.2 with ⟨v,w⟩ | ⟨g,l,D,v,w⟩
 ·have:=I ⟨none,0⟩ q ⟨G.1,Us ⟨by rw[w],w⟩⟩ H (by rw[v]at B;exact B);rw[v];rw[w]at this;exact this
 ·have:=I ⟨some ⟨g,0,none⟩,l⟩ q ⟨G.1,Uo ⟨g,l,D,rfl,w⟩⟩ H (by rw[v]at B;exact B);rw[v];exact this
def Bn(vs:Xt)(bs:List Xt)(x:Xs):Xt:=match mN vs x with | none=>[x] | some i=>bs.getD i []
def jP(vs:Xt)(bs:List Xt):Xt->Xt->Xt
 | [],acc=>acc
 | x :: r,acc=>if acc.length<=32 then jP vs bs r (acc++Bn vs bs x) else acc
def nZ(vs:Xt)(bs:List Xt)(sy:Xt):Xt:=jP vs bs sy []
theorem QC(c:n<i.length)(b:H.length<=32):jP D a (i.drop n) H=jP D a (i.drop (n+1)) (H++Bn D a i[n]):=by
 rw[UB c,jP,Uf b]
theorem Ln(b:¬H.length<=32):jP D a i H=H:=by
 cases i with
 | nil=>rfl
 | cons x r=>rw[jP,Ud b]
theorem Ob(b:¬n<i.length):jP D a (i.drop n) H=H:=by
 rw[Vm (by omega)];rfl
theorem ML(c:1<=n)(h:∀b∈a,b.length<=n):(Bn D a T).length<=n:=by
 unfold Bn;split
 ·simpa using c
 ·next i _ =>
  rw[Uc];cases e:a[i]? with
  | none=>simp
  | some b=>simpa using h b (Vq e)
theorem GD(f:1<=n)(h:∀b∈a,b.length<=n)(e c:Xt)(d:c.length<=32+n):(jP D a e c).length<=32+n:=by
 induction e generalizing c with
 | nil=>exact d
 | cons x r g =>
  rw[jP];split
  ·have:=ML D a x n f h;exact g _ (by simp;omega)
  ·exact d
theorem Lm(d:1<=n)(h:∀b∈a,b.length<=n)(c:Xt):(nZ D a c).length<=32+n:=GD D a n d h c [] (by simp)
theorem Ls:(⟨(aD i).e,(aD i).size,(aD i).n+H.length,(aD i).xs++dm H⟩:ew)=aD (i++H):=by simp[aD,dm]
theorem lj.cells{d:Addr}(v:lj y N S)(e:N.ao=some d):∀j u,(dm S)[j]?=some u->y.cell? (d.add j)=some u:=by
 intro j u i;rcases v with rfl | ⟨g,a,k,t,f,l,m,-⟩
 ·simp[dm]at i
 ·rw[e]at f;cases f
  have b:(S[j]?).map string=some u:=by simpa [dm] using i
  cases c:S[j]? with
  | none=>rw[c]at b;cases b
  | some x =>
   rw[c]at b;cases b;have:(⟨g,a,none⟩:Addr).add j=⟨g,a+j,none⟩:=by
    simp only[Addr.add];split
    ·next n=>subst n;rfl
    ·rfl
   rw[this,ah l];exact m j x c
set_option maxRecDepth 100000
theorem wg(f:List Ex)(ag:Nat->Hd)(hy:Hd)(d:Xt)(B:World)(h:nL B w H f ag)(hl:H.length<=10000)(an:∀e∈f,e.xs.length<=10000)(hv:lj B hy d)(ar:d.length<=10000) :
  Calls prog 275 #[pointer (some ⟨w,0,none⟩),slice hy.ao d.length hy.cap] B fun e w'=>∃m:Hd,
   e=returned (slice m.ao (nZ H (f.map Ex.xs) d).length m.cap)/\aB w' m (aD (nZ H (f.map Ex.xs) d))/\(∀x,m.Yv=some x->B.heap.size<=x)/\ae [] B w':=by
 obtain⟨i0,hi,Y,Z,ac⟩:=UC jN;obtain⟨ao,az⟩:=hy;rcases hv with rfl | ⟨g,af,aS,t,e1,e2,e3,e4,e5⟩
 ·clear ar;go_enter func275,ntmps275;go_wp2;refine Wd 1 ?_;rw[Wt];go_wp2;go_ret;exact⟨⟨none,0⟩,rfl,Uj _ _ _ _,by intro x v;simp[Hd.Yv]at v,ae.refl _ _⟩
 simp only at e1 e4 e5;subst e1;obtain⟨R,HR⟩:∃R,Xr (R=nZ H (f.map Ex.xs) d):=⟨_,rfl⟩
 rw[<-HR.o];go_enter func275,ntmps275;go_wp2
 go_loopg [5,6] d.length (fun gk sv i wr=>∃(k:Nat) (m:Hd) (a:Xt),k<=d.length/\gk=d.length-k/\i=int i64 k/\sv=slice m.ao a.length m.cap/\a.length<=10032/\Xr (R=jP H (f.map Ex.xs) (d.drop k) a)/\aB wr m (aD a)/\(∀x,m.Yv=some x->B.heap.size<=x)/\ae [] B wr)
 ·exact⟨0,⟨none,0⟩,[],by omega,by omega,rfl,rfl,by simp,HR.o,Uj _ _ _ _,by intro x v;simp[Hd.Yv]at v,ae.refl _ _⟩
 obtain⟨k,m,a,hk,hg,rfl,rfl,a0,r,Q,L,D⟩:=hrel;have T:=h.Yh D;by_cases J:k<d.length
 ·by_cases ha:a.length<=32
  ·have al:(a.length:Int)<=32:=(by omega);have c2:wr.cell? ⟨g,af+k,none⟩=some (string d[k]):=(ah (D.get e2 (by simp)) (af+k)).trans (e3 k d[k] (Ub J));have z:Xr _:=r.o.trans (QC H (f.map Ex.xs) d a k J ha);have N:Xr _:=(fun w1 h1=>Ly w H f ag d[k] w1 h1 (by omega));clear r e3;generalize d[k]=y at *;rcases hp:mN H y with _ | p
   ·have c:Xr (R=jP H (f.map Ex.xs) (d.drop (k+1)) (a++[y])):=(by show _=_;rw[z.o];simp[Bn,hp]);have S:=Q.Ym (fun x v=>((ae.refl [] wr).alloc (.cells #[string y] 9)).block x (Q.lt v) (by simp));clear z;(go_upto_region 7 with (go_at_call 279;refine(N.o _ T).mono ?_;rintro e w3 ⟨rfl,K⟩;rw[K,hp];simp only[oM]));go_wp2_with (at_builtin;refine aN _ rfl (.tmp 27) (.tmp 32) 61 rfl i0 (string ⟨#[]⟩) 16 m (aD a) underlying61 hi Y Z ac rfl UA rfl (by exact S) ⟨_,0,none⟩ 1 1 [string y] rfl rfl ?d1 ?d2 UA ?d3 ?d4 ?_)
    case d1=>intro j u hj;match j,hj with | 0,hj=>simp at hj;subst hj;simp[Addr.add]
    case d2=>intro u X;simp at X;subst X;rfl
    case d3=>simp only[aD];unfold maxLen;omega
    case d4=>simp only[aD];omega
    intro g5 O w5 s l b;rw[eI a y]at s;have P:=D.alloc (.cells #[string y] 9);have E:=P.grown l L;have V:B.heap.size<=g5:=by
     rcases b with e | e
     ·exact L g5 e
     ·have:=P.size;simp at e this;omega
    have C:Xr ((aD a).n+1=(a++[y]).length):=cM (by simp[aD]);rw[C.o];clear l b S;go_wp2;go_roundg (d.length-(k+1))
    ·exact⟨k+1,⟨some ⟨g5,0,none⟩,O⟩,a++[y],by omega,rfl,by go_num,rfl,by simp;omega,c.o,s,by intro x v;simp[Hd.Yv]at v;omega,E⟩
    omega
   ·have a2:p<H.length:=by
     have:=UV hp;simpa using this
    have a1:=h.len;have A:p<f.length:=(by omega);have c:Xr (R=jP H (f.map Ex.xs) (d.drop (k+1)) (a++f[p].xs)):=cM (by rw[z.o];simp[Bn,hp,A]);have I:=T.exs f[p] (Uu A);have ap:=an f[p] (Uu A);obtain⟨ad,G⟩:=I.adr;have W:=I.view.cells G;obtain⟨s0,s1⟩:=T.cells;have F:aB wr (ag 1) (im f):=T.bag.YF 1;rcases F.Ys with ⟨_,h0,_⟩ | ⟨gb,ax,eb,-,aT,-⟩
    ·have:f.length=0:=h0;omega
    have cb:=F.cell eb p (xK f[p]) (tW f p A);rw[eb]at s1;unfold xK at cb;rw[G]at cb;have M:Xr _:=W;clear z I G W F eb;generalize f[p]=ex at *;obtain⟨ai,q⟩:=ex;simp only at cb ap c M;(go_upto_region 8 with (go_at_call 279;refine(N.o _ T).mono ?_;rintro e w3 ⟨rfl,K⟩;rw[K,hp];simp only[oM]));go_wp2_with (at_builtin;refine uM _ rfl (.tmp 34) (.tmp 41) 61 rfl i0 (string ⟨#[]⟩) 16 m (aD a) underlying61 hi Y Z ac rfl UA rfl (by exact Q) ad q.length ai.cap (dm q) rfl (by simp[dm,aD]) M.o ?d2 ?d3 ?d4 ?_)
    case d2=>intro u X;simp[dm]at X;obtain⟨_,_,rfl⟩:=X;rfl
    case d3=>simp only[aD];unfold maxLen;omega
    case d4=>simp only[aD];omega
    intro U w5 s l b;rw[Ls a q]at s;have E:=D.grown l L;have V:∀x,U.Yv=some x->B.heap.size<=x:=by
     intro x v;rcases b with e | e
     ·exact L x (e ▸ v)
     ·rw[e]at v;cases v;exact D.size
    have C:Xr ((aD a).n+q.length=(a++q).length):=cM (by simp[aD]);rw[C.o];clear l b;go_wp2;go_roundg (d.length-(k+1))
    ·exact⟨k+1,U,a++q,by omega,rfl,by go_num,rfl,by simp;omega,c.o,s,V,E⟩
    omega
  ·have al:¬(a.length:Int)<=32:=(by omega);have c:Xr (a=R):=(r.o.trans (Ln _ _ _ _ ha)).symm;clear r e3;go_wp2;go_ret;exact⟨m,by rw[<-c.o];rfl,by rw[<-c.o];exact Q,L,D⟩
 ·have c:Xr (a=R):=(r.o.trans (Ob _ _ _ _ _ J)).symm;clear r e3;go_wp2;go_ret;exact⟨m,by rw[<-c.o];rfl,by rw[<-c.o];exact Q,L,D⟩
def l8(s:St)(e:Xt)(S:Xt×List Xt):Int×Xt×List Xt :=
 if(s.Yw==3)=true then(if zG (nZ S.1 S.2 s.Yc) e=true then(0,S) else(8,S))
 else match e with
  | []=>(7,S)
  | x :: r=>if(x.toList==(ji s).toList)=true then(0,S.1++[aL s],S.2++[r]) else(7,S)
structure sF(w:World)(b:Nat)(H:Nat->Hd)(h:Hd)(l:Xt):Prop where
 view:lj w h l
 far:∀x,h.Yv=some x->x<w.heap.size/\x≠b/\¬gF H x
theorem sF.Yh(f:sF y x k N S)(b:ae [] y I):sF I x k N S :=
 ⟨f.view.Yh b,fun c a=>⟨Ul (f.far c a).1 b.size,(f.far c a).2⟩⟩
def jR(g off cap:Nat)(r:Xt):Ex:=⟨⟨if cap=1 then some ⟨g,off,none⟩ else some ⟨g,off+1,none⟩,cap-1⟩,r⟩
theorem OE:(jR o L w H).hd.Yv=some o:=by unfold jR Hd.Yv;simp only;split <;> rfl
theorem QR{g a:Nat}{s:Xs}(h:sF y x k ⟨some ⟨g,a,none⟩,n⟩ (s :: S)):CR y x k (jR g a n S):=by
 have q:(jR g a n S).hd.Yv=some g:=by unfold jR Hd.Yv;simp only;split <;> rfl
 refine⟨?_,?_,fun d b=>h.far d (by rw[q]at b;exact b)⟩
 ·by_cases e:S=[]
  ·subst e;exact Us rfl
  ·rcases h.view with r | ⟨u,f,c,t,i,l,m,o,p⟩
   ·cases r
   ·cases i
    have v:0<S.length:=WR.2 e;simp only[List.length_cons]at o;refine Uo ⟨g,a+1,c,t,by simp only[jR];rw[Ud (by omega)],l,fun j d b=>?_,by simp only[jR];omega,by simp only[jR]at p ⊢;omega⟩;have:=m (j+1) d (by simpa [jR] using b);rw[show a+1+j=a+(j+1) by omega];exact this
 ·unfold jR;simp only;split
  ·exact⟨_,rfl⟩
  ·exact⟨_,rfl⟩
theorem PG(a:List Ex)(l:Nat->Hd)(s:St)(E G O:Hd)(D:Xt)(i:World)(h:nL i w H a l)(hl:H.length<=9999)(ad:∀e∈a,e.xs.length<=10000)(hs:lj i E s.Yc)(a1:s.Yc.length<=10000)(hx:sF i w l O D)(bp:D.length<=10000) :
  Calls prog 273 #[pointer (some ⟨w,0,none⟩),eW s E G,slice O.ao D.length O.cap] i fun e d=>∃(S:List Ex) (H':Nat->Hd),
   e=returned (int i64 (l8 s D (H,a.map Ex.xs)).1)/\nL d w (l8 s D (H,a.map Ex.xs)).2.1 S H'/\S.map Ex.xs=(l8 s D (H,a.map Ex.xs)).2.2/\aw w i l d H'/\∀e∈S,e∈a∨e.hd.Yv=O.Yv:=by
 obtain⟨i0,hi,a6,a7,ba⟩:=UC jN;obtain⟨i1,aS,a3,a4,a5⟩:=UC Nu;have bl:a.length<=9999:=by have:=h.len;omega
 unfold eW;obtain⟨W,hW⟩:∃W,W=i.alloc (.cells #[int i64 s.Yw,string s.Yx,slice E.ao s.Yc.length E.cap,slice G.ao s.Yn.length G.cap,string s.YA.YB,int i64 s.YA.YC,int i64 s.YA.YD,int i64 s.til] 158):=⟨_,rfl⟩
 have K:=fg hW.symm;have B:=fE hW.symm;have HW:Xr _:=hW.symm;obtain⟨u0,u1,u2,u3,u4,u5,u6,u7⟩:=zE B;have V:=h.Yh K;have M:=hs.Yh K;have ar:=hx.Yh K;clear hW;cases Q:(s.Yw==3)
 ·rcases D with _ | ⟨x,r⟩
  ·have v:Xr (l8 s [] (H,a.map Ex.xs)=(7,H,a.map Ex.xs)):=(by show _=_;simp[l8,Q]);clear u1 u2 u3 u4 u5 u6 u7;go_enter func273,ntmps273;(go_upto_region 1 with fail);rw[HW.o];(go_upto_region 5 with fail);go_quiet (fail);go_wp2;go_ret;exact⟨a,l,T0 (by rw[v.o]),by rw[v.o];exact V.Yh (bM.drewN _),by rw[v.o],(aw.refl _ _ _).Yh (K.drewN _),fun _ q=>Us q⟩
  ·obtain⟨bg,b⟩:=O;rcases ar.view with ai | ⟨g,c,bj,t,e1,e2,e3,e4,e5⟩
   ·cases ai
   simp only at e1 e4 e5;subst e1;have aT:¬((r.length:Int)+1==0)=true:=by simp;omega
   have HN:Xr ((x :: r).length=r.length+1):=rfl;have bo:(0:Int)<(r.length:Int)+1:=(by omega);have bf:(1:Int)<=(r.length:Int)+1:=(by omega);rw[HN.o]at *;have cx:W.cell? ⟨g,c,none⟩=some (string x):=by have:=(ah e2 c).trans (by simpa using e3 0 x rfl);exact this
   have TC:=Cy s E G;unfold eW at TC;have Z:Xr _:=TC;have HC:Xr (∀d,ae [] W.drew d->d.cell? ⟨g,c,none⟩=some (string x)/\d.cell? ⟨i.heap.size,0,none⟩=some (int i64 s.Yw)/\d.cell? ⟨i.heap.size,1,none⟩=some (string s.Yx)/\d.cell? ⟨i.heap.size,2,none⟩=some (slice E.ao s.Yc.length E.cap)/\d.cell? ⟨i.heap.size,3,none⟩=some (slice G.ao s.Yn.length G.cap)/\d.cell? ⟨i.heap.size,4,none⟩=some (string s.YA.YB)/\d.cell? ⟨i.heap.size,5,none⟩=some (int i64 s.YA.YC)/\d.cell? ⟨i.heap.size,6,none⟩=some (int i64 s.YA.YD)/\d.cell? ⟨i.heap.size,7,none⟩=some (int i64 s.til)):=by
    intro d k;have q:=k.get (show W.drew.heap[i.heap.size]?=_ from B) (by simp);have q2:=k.get (show W.drew.heap[g]?=_ from e2) (by simp);refine⟨(ah q2 c).trans (by simpa using e3 0 x rfl),?_,?_,?_,?_,?_,?_,?_,?_⟩ <;> (rw[ah q];rfl)
   clear TC e3;go_enter func273,ntmps273;(go_upto_region 1 with fail);rw[HW.o];(go_upto_region 5 with fail);cases hc:(x.toList==(ji s).toList)
   ·have v:Xr (l8 s (x :: r) (H,a.map Ex.xs)=(7,H,a.map Ex.xs)):=(by show _=_;simp[l8,Q,hc]);go_region_held3 (fun d=>d.cell? ⟨g,c,none⟩=some (string x)/\d.cell? ⟨i.heap.size,0,none⟩=some (int i64 s.Yw)/\d.cell? ⟨i.heap.size,1,none⟩=some (string s.Yx)/\d.cell? ⟨i.heap.size,2,none⟩=some (slice E.ao s.Yc.length E.cap)/\d.cell? ⟨i.heap.size,3,none⟩=some (slice G.ao s.Yn.length G.cap)/\d.cell? ⟨i.heap.size,4,none⟩=some (string s.YA.YB)/\d.cell? ⟨i.heap.size,5,none⟩=some (int i64 s.YA.YC)/\d.cell? ⟨i.heap.size,6,none⟩=some (int i64 s.YA.YD)/\d.cell? ⟨i.heap.size,7,none⟩=some (int i64 s.til)) (go_keep) (first | (go_at_call 192;refine(Z.o _ (by exact M.Yh bM.drew) (by omega)).mono ?_;rintro e U ⟨rfl,F⟩;obtain⟨x0,x1,x2,x3,x4,x5,x6,x7,x8⟩:=HC.o U F))
    all_goals
     clear u0 u1 u2 u3 u4 u5 u6 u7 cx;go_wp2;go_ret;exact⟨a,l,T0 (by rw[v.o]),by rw[v.o];exact V.Yh ((bM.drew).trans F),by rw[v.o],(aw.refl _ _ _).Yh (K.drew.trans F),fun _ q=>Us q⟩
   ·have v:Xr (l8 s (x :: r) (H,a.map Ex.xs)=(0,H++[aL s],a.map Ex.xs++[r])):=(by show _=_;simp[l8,Q,hc]);have VA:=qi s E G;unfold eW at VA;have ax:Xr _:=VA;clear VA;go_region_held3 (fun d=>d.cell? ⟨g,c,none⟩=some (string x)/\d.cell? ⟨i.heap.size,0,none⟩=some (int i64 s.Yw)/\d.cell? ⟨i.heap.size,1,none⟩=some (string s.Yx)/\d.cell? ⟨i.heap.size,2,none⟩=some (slice E.ao s.Yc.length E.cap)/\d.cell? ⟨i.heap.size,3,none⟩=some (slice G.ao s.Yn.length G.cap)/\d.cell? ⟨i.heap.size,4,none⟩=some (string s.YA.YB)/\d.cell? ⟨i.heap.size,5,none⟩=some (int i64 s.YA.YC)/\d.cell? ⟨i.heap.size,6,none⟩=some (int i64 s.YA.YD)/\d.cell? ⟨i.heap.size,7,none⟩=some (int i64 s.til)) (go_keep) (first | (go_at_call 192;refine(Z.o _ (by exact M.Yh bM.drew) (by omega)).mono ?_;rintro e U ⟨rfl,F⟩;obtain⟨x0,x1,x2,x3,x4,x5,x6,x7,x8⟩:=HC.o U F))
    all_goals
     have ac:=V.Yh ((bM.drew).trans F);obtain⟨m0,m1⟩:=ac.cells;have a2:=M.Yh ((bM.drew).trans F);clear u0 u1 u2 u3 u4 u5 u6 u7 cx x0;(go_upto_region 7 with fail);have s4:Xr ((aD H).n+1<=maxLen):=(by show _<=_;simp only[aD];unfold maxLen;omega);have s5:Xr (((aD H).n+1)*16<=140737488355328):=(by show _<=_;simp only[aD];omega);have s3:Xr (∀u∈([string (aL s)]:List Value),u.oneCell'=true):=(by intro u hu;simp at hu;subst hu;rfl);have az:Xr (∀L,ae [] U.drew L->nL L w H a l/\nL (L.alloc (.cells #[string (aL s)] 9)) w H a l/\∀j u,([string (aL s)]:List Value)[j]?=some u->(L.alloc (.cells #[string (aL s)] 9)).cell? ((⟨L.heap.size,0,none⟩:Addr).add j)=some u):=by
      intro L k;have q:=ac.Yh (((ae.refl [] U).drew).trans k);refine⟨q,q.Yh (bM.alloc _),fun j u I=>?_⟩;have Q:(L.alloc (.cells #[string (aL s)] 9)).heap[L.heap.size]?=some (.cells #[string (aL s)] 9):=Ui _ _;rw[bS,ah Q];simpa using I
     have a0:Xr (∀j,j≠0->rg (H++[aL s]) a j=rg H a j):=by
      intro j I
      match j,I with
      | 0,I=>exact absurd rfl I
      | 1,_=>rfl
      | m+2,_=>rfl
     go_region_law (first | (refine cv rfl (.tmp 32) (.tmp 35) 61 rfl i0 (string ⟨#[]⟩) 16 (l 0) (aD H) underlying61 hi a6 a7 ba rfl UA (by simp[Act.eval] <;> rfl) (y1.bag.YF 0) ⟨_,0,none⟩ 1 1 [string (aL s)] (by simp[Act.eval] <;> rfl) rfl y2 s3.o UA s4.o s5.o ?_;intro J f w5 an ag C;obtain⟨k5,f5,HP⟩:=bn.app y1.bag (cs':=qc (H++[aL s]) a (ie l 0 ⟨some ⟨J,0,none⟩,f⟩)) (rows':=rg (H++[aL s]) a) 0 0 J f ((aD H).n+1) _ an (eI H (aL s)) ag (by simpa using C) a0.o (slice (l 0).ao H.length (l 0).cap) rfl (by simp[qc,ie,aD]);clear an ag C) | (go_simp;go_at_call 190;refine(ax.o _ (by exact a2.Yh bM.drew) (by omega)).mono ?_;rintro e L ⟨rfl,k4⟩;obtain⟨y0,y1,y2⟩:=az.o L k4;obtain⟨n0,n1⟩:=y0.cells;obtain⟨p0,p1⟩:=y1.cells))
     all_goals
      generalize hX:w5.setCell ⟨w,0,none⟩ (slice (some ⟨J,0,none⟩) ((aD H).n+1) f)=X at HP ⊢;have T5:Xr (aw w i l X (ie l 0 ⟨some ⟨J,0,none⟩,f⟩)):=(((HP.o.2.first (bM.alloc _)).first (((ae.refl [] U).drew).trans k4)).first (K.drew.trans F));have D5:=HP.o.1;have q1:=D5.cell 1;have bk:=D5.lt;simp only[qc,List.getElem?_cons_succ,List.getElem?_cons_zero]at q1;clear hX k5 f5 n0 n1 p0 p1 y0 y1 y2 m0 m1 x1 x2 x3 x4 x5 x6 x7 x8;(go_upto_region 8 with fail);have hD:Xr (bn (X.alloc (.cells #[xK (jR g c b r)] 61)).drew w 343 (qc (H++[aL s]) a (ie l 0 ⟨some ⟨J,0,none⟩,f⟩)) (rg (H++[aL s]) a) (ie l 0 ⟨some ⟨J,0,none⟩,f⟩)):=D5.Yh ((ae.refl [] X).alloc _).drew;have s2:Xr (∀j u,([xK (jR g c b r)]:List Value)[j]?=some u->(X.alloc (.cells #[xK (jR g c b r)] 61)).drew.cell? ((⟨X.heap.size,0,none⟩:Addr).add j)=some u):=by
       intro j u I;have Q:(X.alloc (.cells #[xK (jR g c b r)] 61)).drew.heap[X.heap.size]?=some (.cells #[xK (jR g c b r)] 61):=Ui _ _;rw[bS,ah Q];simpa using I
      have T:Xr (∀u∈([xK (jR g c b r)]:List Value),u.oneCell'=true):=(by intro u hu;simp at hu;subst hu;rfl);have bc:Xr ((im a).n+1<=maxLen):=(by show _<=_;simp only[im];unfold maxLen;omega);have bd:Xr (((im a).n+1)*24<=140737488355328):=(by show _<=_;simp only[im];omega);have al:Xr (∀j,j≠1->rg (H++[aL s]) (a++[jR g c b r]) j=rg (H++[aL s]) a j):=by
       intro j I
       match j,I with
       | 0,_=>rfl
       | 1,I=>exact absurd rfl I
       | m+2,_=>rfl
      unfold xK at hD s2 T;simp only[jR]at hD s2 T;go_region_law (refine cv rfl (.tmp 43) (.tmp 46) 218 rfl i1 (slice none 0 0) 24 (ie l 0 ⟨some ⟨J,0,none⟩,f⟩ 1) (im a) underlying218 aS a3 a4 a5 rfl UA (by simp[Act.eval] <;> rfl) (hD.o.YF 1) ⟨X.heap.size,0,none⟩ 1 1 _ (by simp[Act.eval]) rfl s2.o T.o UA bc.o bd.o ?_;intro g6 N w6 ap P p;obtain⟨k6,f6,Y⟩:=bn.app hD.o (cs':=qc (H++[aL s]) (a++[jR g c b r]) (ie (ie l 0 ⟨some ⟨J,0,none⟩,f⟩) 1 ⟨some ⟨g6,0,none⟩,N⟩)) (rows':=rg (H++[aL s]) (a++[jR g c b r])) 1 1 g6 N ((im a).n+1) _ ap (vB a (jR g c b r)) P (by simpa using p) al.o (slice (ie l 0 ⟨some ⟨J,0,none⟩,f⟩ 1).ao a.length (ie l 0 ⟨some ⟨J,0,none⟩,f⟩ 1).cap) rfl (by simp[qc,ie,im]);clear ap P p)
      all_goals
       have T6:Xr _:=T5.o.trans (Y.o.2.first (bM.alloc _).drew);clear q1 k6 f6;generalize (if b=1 then some (⟨g,c,none⟩:Addr) else some ⟨g,c+1,none⟩)=AE;go_wp2;go_ret;refine⟨a++[jR g c b r],_,T0 (by rw[v.o]),?_,by rw[v.o];simp[jR],T6.o,fun e q=>by rw[UG]at q;rcases q with q | q;exact Us q;simp at q;subst q;exact Uo (OE g c b r)⟩;rw[v.o];refine⟨Y.o.1,by simp[h.len],?_⟩;intro e A;rw[UG]at A;rcases A with A | A
       ·exact(h.exs e A).turned T6.o
       ·simp at A;subst A;exact(QR b hx).turned T6.o
 ·go_enter func273,ntmps273;go_upto_region 1 with fail
  rw[HW.o];have RA:=wg w H a l E s.Yc W V (by omega) ad M a1;have RL:=Lm H (a.map Ex.xs) 10000 (by omega) (by intro y hy;obtain⟨e,O,rfl⟩:=Vf.1 hy;exact ad e O) s.Yc;have v:Xr (l8 s D (H,a.map Ex.xs)=if zG (nZ H (a.map Ex.xs) s.Yc) D=true then(0,H,a.map Ex.xs) else(8,H,a.map Ex.xs)):=cM (by simp[l8,Q]);generalize nZ H (a.map Ex.xs) s.Yc=R at *;clear u1 u3 u4 u5 u6 u7;go_wp2_with fail;refine RA.mono ?_;rintro e w2 ⟨hd,rfl,ho,hn,k2⟩;go_wp2_with fail;refine(Ae hd O R D w2 ho.view (ar.view.Yh k2) (by omega) (by omega)).mono ?_;rintro e U ⟨rfl,F⟩;cases af:zG R D
  ·have z:Xr (l8 s D (H,a.map Ex.xs)=(8,H,a.map Ex.xs)):=(by show _=_;rw[v.o,af];simp);clear v RA;go_wp2;go_ret;exact⟨a,l,T0 (by rw[z.o]),by rw[z.o];exact(V.Yh k2).Yh F,by rw[z.o],(aw.refl _ _ _).Yh ((K.trans k2).trans F),fun _ q=>Us q⟩
  ·have z:Xr (l8 s D (H,a.map Ex.xs)=(0,H,a.map Ex.xs)):=(by show _=_;rw[v.o,af];simp);clear v RA;go_wp2;go_ret;exact⟨a,l,T0 (by rw[z.o]),by rw[z.o];exact(V.Yh k2).Yh F,by rw[z.o],(aw.refl _ _ _).Yh ((K.trans k2).trans F),fun _ q=>Us q⟩
end Go.Proofs.YtnbhnocdhbcbcaaGreat
