import Derived.BigQuiet
import Derived.Maps.AppendAt
import Derived.Test.YtpdholcaobgofaaGreatP08
namespace Go.Proofs.YtpdholcaobgofaaGreat
open Go.RowKit Tryz
open Value IntKind Ending
set_option maxHeartbeats 0
variable{x:Nat}{y I:World}{N:Hd}{S M:Xs}{k:Nat->Hd}(o L w:Nat)(b:List St)(d:Nat->Hd)(D:Xs)(a:List Xs)(i:Xs)(f:World)(H:Xs)(T:Xr)(n:Nat)(l:Fs)
def CC(p:Pl):Prop:=(-1000000000<=p.ZbF/\p.ZbF<=1000000000)/\Qw p
structure Gd(d:Db)(m:Nat):Prop where
 bnd:qo d m
 now:lW d.Zbp<=m/\∀x∈d.Zbp,CC x.2
 Zbv:∀s∈d.Zbv,0<s.Zbe.length/\s.Zbe.length<=m/\s.Zbp.length<=m/\lW s.Zbp<=m/\(∀x∈s.Zbp,CC x.2)/\CC s.ZbC
theorem Ld(l:List (Xr×Pl))(x:Xr×Pl):lW (l++[x])=lW l+x.1.size:=by
 simp[lW]
theorem Km{l:List St}{s:St}(h:s∈ig l x):∃a∈l,s.Zbe=a.Zbe/\s.Zbp=a.Zbp/\s.ZbC=a.ZbC:=by
 unfold ig ia at h;rw[List.mem_mapIdx]at h;obtain⟨i,b,rfl⟩:=h;refine⟨l[i],XM b,?_⟩;split
 ·unfold ma;split <;> exact⟨rfl,rfl,rfl⟩
 ·exact⟨rfl,rfl,rfl⟩
theorem Gd.take{d:Db}(h:Gd d x)(i:Xr)(p:Pl)(n:Nat)(B:i.size<=n)(z:1<=n)(o:CC p):Gd (aY d i p).2 (x+n):=by
 have u:=(h.bnd.take i p).mono (m':=x+n) (by omega);have A:=h.bnd.Zbp;have v:=h.bnd.Zbg;refine⟨u,?_,?_⟩
 ·rcases Lw d i p with e | e | e
  ·rw[e];exact⟨by have:=h.now.1;omega,h.now.2⟩
  ·rw[e];exact⟨by simp[lW],by simp⟩
  ·rw[e];refine⟨by rw[Ld];have:=h.now.1;simp only;omega,fun y g=>?_⟩;rcases X9.1 g with g | g
   ·exact h.now.2 y g
   ·rw[XH.1 g];exact o
 ·rcases IX d i p with e | ⟨y,_,e⟩ | ⟨e,f⟩
  ·rw[e];intro s a;obtain⟨b,k,l,m,c⟩:=h.Zbv s a;exact⟨b,by omega,by omega,by omega,c⟩
  ·rw[e];intro s a;obtain⟨w,j,q,r,t⟩:=Km a;obtain⟨b,k,l,m,c⟩:=h.Zbv w j;rw[q,r,t];exact⟨b,by omega,by omega,by omega,c⟩
  ·rw[e];intro s a;rcases X9.1 a with a | a
   ·obtain⟨b,k,l,m,c⟩:=h.Zbv s a;exact⟨b,by omega,by omega,by omega,c⟩
   ·rw[XH.1 a];exact⟨f,by simp only;omega,by simp only;omega,by have:=h.now.1;simp only;omega,h.now.2,o⟩
theorem Gd.empty:Gd gF 0:=⟨qo.empty,by simp[gF,lW],by simp[gF]⟩
theorem Bj(c:n<=T.size):(bQ T n).1.text.size<=(bQ T n).2-n/\(bQ T n).1.pos<=T.size:=by
 have a:=Ff T n c;have b:=vJ T (skip T n) a.2;unfold bQ;simp only;split
 ·exact⟨by simp[ByteArray.size],b.2⟩
 ·split
  ·exact⟨by simp[ByteArray.size],by simp only;omega⟩
  ·refine⟨?_,by simp only;omega⟩;simp only[ByteArray.size_extract];omega
theorem zV(k:Nat)(a:k<=T.size):(bt T k).1.pos<=T.size:=by
 unfold bt;generalize T.size-k+1=f
 induction f generalizing k with
 | zero=>simp[cN,a]
 | succ f c =>
  have b:=(Bj T k a).2;have d:=iQ T k a;rw[cN];split
  ·split
   ·exact b
   ·exact c (bQ T k).2 d.2.1
  ·split
   ·exact b
   ·exact b
theorem Ks(k:Nat)(a:k<=T.size):(aQ (aF T k).1=true->(aF T k).1.text.size<=(aF T k).2-k)/\(aF T k).1.pos<=T.size:=by
 unfold aF;generalize T.size-k+1=f
 induction f generalizing k with
 | zero=>exact⟨fun h=>by simp[eJ,aQ]at h,by simp[eJ,a]⟩
 | succ f g =>
  have c:=Bj T k a;have b:=iQ T k a;rw[eJ];split
  ·have d:=kt T (bQ T k).2 b.2.1;have cp:=zV T (bQ T k).2 b.2.1;split
   ·have:=g _ d.2;exact⟨fun h=>by have:=this.1 h;omega,this.2⟩
   ·next e=>exact⟨fun h=>absurd h e,cp⟩
  ·exact⟨fun _=>c.1,c.2⟩
theorem Q7(s:Xr)(p:Nat)(c:p<=1024):CC (mn T s p):=by
 have a:=Ef s p;have b:=EH s p;unfold CC Qw mn;simp only;omega
def UG(fs:Fs)(bg:List Bool)(m:Nat)(r:LV):Prop :=
 r.2.1.length=4/\fg fs r.2.1<=fg fs bg/\∃m',Gd r.2.2 m'/\m'+fg fs r.2.1<=m+fg fs bg
theorem NW(a:∀j,j<l.length->(ak l j).size<=1024)(x:Nat):(ak l x).size<=1024:=by
 rcases Zao x l.length with h | h
 ·exact a x h
 ·have:(ak l x).size=0:=by unfold ak;rw[Xw,Yb h];rfl
  omega
theorem PH(p:∀j,j<l.length->(ak l j).size<=1024)(f:Nat)(s:∀j a d m,a.length=4->Gd d m->UG l a m (dn l f j a d))(x k:Nat)(a:List Bool)(d:Db)(m:Nat)(q:k<=(ak l x).size)(o:a.length=4)(i:Gd d m)(r:aQ (aF (ak l x) k).1=true) :
  UG l a (m+((aF (ak l x) k).2-k)) (iy l f x k a d).1/\(aF (ak l x) k).2<=(iy l f x k a d).2/\(iy l f x k a d).2<=(ak l x).size:=by
 have c:=gU (ak l x) k q;have w:=c.2.2 r;have y:=Ks (ak l x) k q;have e:=NW l p x;unfold iy lA;split
 ·unfold pG;split
  ·exact⟨⟨o,Xy _,m,i,by simp only;omega⟩,Xy _,c.2.1⟩
  ·next j C b =>
   have g:=s j a d m o i;refine⟨⟨g.1,g.2.1,?_⟩,?_⟩
   ·obtain⟨v,z,B⟩:=g.2.2;exact⟨v,z,by simp only;omega⟩
   ·unfold vj at b;have u:=gU (ak l x) (aF (ak l x) k).2 c.2.1;have A:=gU (ak l x) (aF (ak l x) (aF (ak l x) k).2).2 u.2.1
    repeat' split at b
    all_goals first | (cases b;done) | skip
    injection b with b
    injection b with t n
    subst n;omega
 ·refine⟨⟨o,Xy _,m+((aF (ak l x) k).2-k),i.take _ _ _ (y.1 r) (by omega) (Q7 _ _ _ (by omega)),by simp only;omega⟩,Xy _,c.2.1⟩
theorem Vp(q:∀j,j<l.length->(ak l j).size<=1024)(f:Nat):(∀x k a d m,k<=(ak l x).size->a.length=4->Gd d m->(bI l f x k a d).2.1.length=4/\fg l (bI l f x k a d).2.1<=fg l a/\∃c,Gd (bI l f x k a d).2.2 c/\c+fg l (bI l f x k a d).2.1<=m+((ak l x).size-k)+fg l a) /\
  (∀j a d m,a.length=4->Gd d m->UG l a m (dn l f j a d)):=by
 have b:∀f,(∀x k a d m,k<=(ak l x).size->a.length=4->Gd d m->(bI l f x k a d).2.1.length=4/\fg l (bI l f x k a d).2.1<=fg l a/\∃c,Gd (bI l f x k a d).2.2 c/\c+fg l (bI l f x k a d).2.1<=m+((ak l x).size-k)+fg l a) ->
   (∀j a d m,a.length=4->Gd d m->UG l a m (dn l f j a d)):=by
  intro f h j a d m e g;unfold dn;split
  ·exact⟨e,Xy _,m,g,Xy _⟩
  ·next y =>
   have o:a.getD j true=false:=(by simpa using y);have G:=AD l a j e o;have:=h j 0 (a.set j true) d m (XX _) (by simpa using e) g;refine⟨this.1,by omega,?_⟩;obtain⟨c,A,I⟩:=this.2.2;exact⟨c,A,by omega⟩
 induction f with
 | zero =>
  have r:∀x k a d m,k<=(ak l x).size->a.length=4->Gd d m->(bI l 0 x k a d).2.1.length=4/\fg l (bI l 0 x k a d).2.1<=fg l a/\∃c,Gd (bI l 0 x k a d).2.2 c/\c+fg l (bI l 0 x k a d).2.1<=m+((ak l x).size-k)+fg l a:=by
   intro x k a d m p e g;exact⟨e,Xy _,m,g,by simp only[bI];omega⟩
  exact⟨r,b 0 r⟩
 | succ f t =>
  have s:∀x k a d m,k<=(ak l x).size->a.length=4->Gd d m->(bI l (f+1) x k a d).2.1.length=4/\fg l (bI l (f+1) x k a d).2.1<=fg l a/\∃c,Gd (bI l (f+1) x k a d).2.2 c/\c+fg l (bI l (f+1) x k a d).2.1<=m+((ak l x).size-k)+fg l a:=by
   intro x k a d m p e g;cases n:aQ (aF (ak l x) k).1 with
   | true =>
    have H:=gU (ak l x) k p;have F:=PH l q f t.2 x k a d m p e g n;obtain⟨⟨v,D,u,w,L⟩,M,E⟩:=F;cases i:((iy l f x k a d).1.1.1==0) with
    | true =>
     rw[CZ l f x k a d n i];obtain⟨B,J,z,C,K⟩:=t.1 x (iy l f x k a d).2 (iy l f x k a d).1.2.1 (iy l f x k a d).1.2.2 u E v w;exact⟨B,by omega,z,C,by omega⟩
    | false =>
     rw[rr l f x k a d n i];exact⟨v,D,u,w,by omega⟩
   | false =>
    by_cases i:(aF (ak l x) k).1.ZbC=true/\lU d=false
    ·rw[Es l f x k a d n i.1 i.2];exact⟨e,Xy _,m,g,by simp only;omega⟩
    ·rw[Ao l f x k a d n i];exact⟨e,Xy _,m,g,by simp only;omega⟩
  exact⟨s,b (f+1) s⟩
def zbM(l:List St):Prop:=∀s∈l,Qw s.ZbC/\∀x∈s.Zbp,Qw x.2
structure zco(l:List St):Prop where
 ok:iV l
 prf:∀i (hi:i<l.length),CD l[i]
 lns:zbM l
theorem Iv(c:∀j,j<l.length->(ak l j).size<=1024)(k:Nat):zco (cK l k).2.2.Zbv:=by
 obtain⟨_,_,m,a,o⟩:=(Vp l c 5000).2 k Mf gF 0 rfl Gd.empty;have g:=EL l c Mf;have f:m<=4104:=by omega
 have n:=a.bnd.Zbv;unfold cK;refine⟨⟨by omega,fun i b=>?_,fun i b=>?_,fun i b=>?_⟩,fun i b=>⟨?_,?_⟩,?_⟩
 ·exact(a.Zbv _ (XM b)).1
 ·have:=(a.Zbv _ (XM b)).2.1;omega
 ·have:=(a.Zbv _ (XM b)).2.2.1;omega
 ·have:=(a.Zbv _ (XM b)).2.2.2.1;omega
 ·exact fun x d=>((a.Zbv _ (XM b)).2.2.2.2.1 x d).1
 ·exact fun s e=>⟨(a.Zbv s e).2.2.2.2.2.2,fun x d=>((a.Zbv s e).2.2.2.2.1 x d).2⟩
def JZ(f:sB):Array Value:=#[int i64 f.1,string f.2.ZbD,int i64 f.2.ZbE,int i64 f.2.ZbF]
theorem kI{f:sB}(h:y.heap[x]?=some (.cells (JZ f) 165)) :
  y.cell? ⟨x,0,none⟩=some (int i64 f.1)/\y.cell? ⟨x,1,none⟩=some (string f.2.ZbD)/\y.cell? ⟨x,2,none⟩=some (int i64 f.2.ZbE)/\y.cell? ⟨x,3,none⟩=some (int i64 f.2.ZbF):=by
 refine⟨?_,?_,?_,?_⟩ <;> (rw[ab h];rfl)
theorem Ga(s:St)(d:b.length<=10000)(e:s.Zbp.length<=10000):iU ⟨(dN b n s.ZbC 1 (s.Zbp.drop 1) (aM b n)).2,[],[],0,false⟩ 20000:=by
 have a:=(CJ b n s.ZbC (s.Zbp.drop 1) 1 (aM b n)).2;have c:(aM b n).length<=b.length:=rt b n b.length;simp only[List.length_drop]at a;exact⟨by simp only;omega,by simp,by simp,by simp,by simp⟩
set_option maxRecDepth 100000
theorem vA(hr:dQ f o L b d)(ha:w<b.length)(ok:iV b)(b1:CD b[w]) :
  Calls prog 137 #[pointer (some ⟨o,L,none⟩),int i64 w] f fun e w'=>∃hd:Hd,
   e=returned (tuple #[slice hd.ao (mM b w b[w]).1.length hd.cap,jh (mM b w b[w]).2])/\aD w' hd (iO (mM b w b[w]).1)/\(∀x,hd.Zbx=some x->f.heap.size<=x)/\aa [] f w':=by
 have bv:=ok.len;have b5:=ok.prfs w ha;have cd:(aM b w).length<=b.length:=rt b w b.length;obtain⟨AO,bd⟩:=aP ((d (11+2*w)).ao);obtain⟨W,hW⟩:∃W,W=f.alloc (.cells #[int i64 0,string ⟨#[]⟩,int i64 0,int i64 0] 165):=⟨_,rfl⟩
 have K:=dx hW.symm;have BF:W.heap[f.heap.size]?=some (.cells bM 165):=by rw[hW];exact XD _ _
 have HW:Xq _:=hW.symm;clear hW;go_enter func137,ntmps137;go_upto_region 1 with fail
 rw[HW.o];go_wp2_with fail;refine(bu o L w b d _ (hr.Zbj K) ha).mono ?_;rintro e u ⟨rfl,U⟩;unfold du;rw[bd.o];obtain⟨TB,an⟩:∃TB:Array Value,TB=#[int i64 b[w].Zby,string b[w].Zbz,slice (d (10+2*w)).ao b[w].Zbe.length (d (10+2*w)).cap,slice AO b[w].Zbp.length (d (11+2*w)).cap,string b[w].ZbC.ZbD,int i64 b[w].ZbC.ZbE,int i64 b[w].ZbC.ZbF,int i64 b[w].til]:=⟨_,rfl⟩
 obtain⟨W2,F⟩:∃W2,W2=u.alloc (.cells #[int i64 b[w].Zby,string b[w].Zbz,slice (d (10+2*w)).ao b[w].Zbe.length (d (10+2*w)).cap,slice AO b[w].Zbp.length (d (11+2*w)).cap,string b[w].ZbC.ZbD,int i64 b[w].ZbC.ZbE,int i64 b[w].ZbC.ZbF,int i64 b[w].til] 158):=⟨_,rfl⟩
 have bk:Xq _:=F.symm;have K2:aa [] f W2:=by rw[F];exact(K.trans U).alloc _
 have BT:W2.heap[u.heap.size]?=some (.cells TB 158):=by rw[F,an];exact XD _ _
 have a5:W2.heap[f.heap.size]?=some (.cells bM 165):=by rw[F];exact(bH.alloc _).get (U.get BF (by simp)) (by simp)
 have cf:f.heap.size<u.heap.size:=by have:=ah (U.get BF (by simp));omega
 have ch:=ah BT;have z:Xq _:=an;clear F an;go_upto_region 2 with fail
 rw[bk.o];clear HW bk U BF K;have ar:=K2.size;have bw:=hr.Zbj K2;go_wp2_with fail;refine(mb o L w b d _ bw ha ok).mono ?_;rintro e I ⟨s,rfl,br,bq,G⟩
 have CM:eU (I.alloc (.cells #[slice s.ao (aM b w).length s.cap,slice none 0 0,slice none 0 0,int i64 0,bool false] 279)) I.heap.size ⟨aM b w,[],[],0,false⟩ (Ck s):=UQ (cs:=nE ⟨aM b w,[],[],0,false⟩ (Ck s)) (rows:=Ba ⟨aM b w,[],[],0,false⟩) br (by
  intro i
  match i with
  | 0=>exact XE _ _ _ _
  | 1=>exact XE _ _ _ _
  | m+2=>exact XE _ _ _ _)
 have K4:aa [] f (I.alloc (.cells #[slice s.ao (aM b w).length s.cap,slice none 0 0,slice none 0 0,int i64 0,bool false] 279)):=(K2.trans G).alloc _;have ag:(I.alloc (.cells #[slice s.ao (aM b w).length s.cap,slice none 0 0,slice none 0 0,int i64 0,bool false] 279)).heap[u.heap.size]?=some (.cells TB 158):=(bH.alloc _).get (G.get BT (by simp)) (by simp);have af:(I.alloc (.cells #[slice s.ao (aM b w).length s.cap,slice none 0 0,slice none 0 0,int i64 0,bool false] 279)).heap[f.heap.size]?=some (.cells bM 165):=(bH.alloc _).get (G.get a5 (by simp)) (by simp);have cj:W2.heap.size<=I.heap.size:=G.size;have n:∀x,eG (Ck s) x->W2.heap.size<=x:=fun x a=>bq x (VW a);obtain⟨W4,ap⟩:∃W4,W4=I.alloc (.cells #[slice s.ao (aM b w).length s.cap,slice none 0 0,slice none 0 0,int i64 0,bool false] 279):=⟨_,rfl⟩
 rw[<-ap]at CM K4 ag af;have bl:Xq _:=ap.symm;clear ap br bq G BT a5;go_upto_region 3 with fail
 rw[bl.o];clear bl;have b0:=Ga b w b[w] bv b5;have bo:=(CJ b w b[w].ZbC (b[w].Zbp.drop 1) 1 (aM b w)).1;have R:=Cr I.heap.size ⟨aM b w,[],[],0,false⟩ (Ck s) o L w b d f W4 CM hr K4 ha ok (by simp only;omega) (by omega) (fun x a=>XF ar (n x a));have be:Xq (Gb b w b[w]=Kv (dN b w b[w].ZbC 1 (b[w].Zbp.drop 1) (aM b w)).1.2 (b[w].Zbp.drop (dN b w b[w].ZbC 1 (b[w].Zbp.drop 1) (aM b w)).1.1) ⟨(dN b w b[w].ZbC 1 (b[w].Zbp.drop 1) (aM b w)).2,[],[],0,false⟩):=rfl;simp only at R;have cb:=aO.lt CM;simp only[List.length_drop]at bo;generalize dN b w b[w].ZbC 1 (b[w].Zbp.drop 1) (aM b w)=BL at *;obtain⟨⟨nx,bf,bp⟩,ns⟩:=BL;simp only at R be b0 bo;go_wp2_with fail;refine R.mono ?_;rintro e g ⟨rfl,H5,D5,Y⟩;unfold jh
 have K5:=K4.ofP Y.1 (fun x a=>by
  rcases a with e | e
  ·omega
  ·exact XF ar (n x e))
 have n1:¬eG H5 f.heap.size:=Y.fresh _ (by omega) (fun hm=>by have:=n _ hm;omega);have n2:¬eG H5 u.heap.size:=Y.fresh _ (by omega) (fun hm=>by have:=n _ hm;omega);have nb:∀x,eG H5 x->f.heap.size<=x:=fun x a=>by
  rcases Y.2 x a with e | e
  ·exact XF ar (n x e)
  ·omega
 have ba:=Y.1.get ag (by rintro (e | e);omega;have:=n _ e;omega);have a6:=Y.1.get af (by rintro (e | e);omega;have:=n _ e;omega);have n3:¬eG H5 g.heap.size:=fun hm=>by have:=aO.inlt D5 hm;omega
 have cg:=Y.1.size;obtain⟨W6,S⟩:∃W6,W6=g.alloc (.cells #[int i64 bf,string bp.ZbD,int i64 bp.ZbE,int i64 bp.ZbF] 165):=⟨_,rfl⟩
 have k6:=dx S.symm;have a4:W6.heap[g.heap.size]?=some (.cells (JZ (bf,bp)) 165):=by rw[S];exact XD _ _
 have C6:=eU.Zbj D5 k6;have bc:=k6.get ba (by simp);have a7:=k6.get a6 (by simp);have K6:=K5.trans k6;have bm:Xq _:=S.symm;clear S;go_upto_region 4 with fail
 rw[bm.o];clear bm ag af ba a6 D5 Y R CM K4 K5 bw k6;go_wp2
 go_loopg [10] (b[w].Zbp.length-nx) (fun gk iv wr=>∃(i:Nat) (l:nC) (y:Nat->Hd) (k:sB) (N:Nat),i<=10001/\gk=b[w].Zbp.length-i/\iv=int i64 i/\iU l N/\N+lW (b[w].Zbp.drop i)<=1020000/\Xq (Gb b w b[w]=Kv k (b[w].Zbp.drop i) l)/\eU wr I.heap.size l y/\(∀x,eG y x->f.heap.size<=x)/\aa [] f wr /\
  wr.heap[f.heap.size]?=some (.cells bM 165)/\wr.heap[u.heap.size]?=some (.cells TB 158)/\wr.heap[g.heap.size]?=some (.cells (JZ k) 165)/\¬eG y f.heap.size/\¬eG y u.heap.size/\¬eG y g.heap.size)
 ·exact⟨nx,_,H5,(bf,bp),20000,by omega,by omega,rfl,b0,by have:=IK b[w].Zbp nx;have:=b1.size;omega,be,C6,nb,K6,a7,bc,a4,n1,n2,n3⟩
 obtain⟨i,l,y,k,N,hi,hg,rfl,ad,hN,hR,hC,aq,KW,B1,X,B9,n1,n2,n3⟩:=hrel;clear C6 nb K6 a7 bc a4;have b6:=hr.Zbj KW;have bx:=ah B1;have bz:=ah X;have bT:=ah B9;have E:=b6.Zbv.prfs w b[w] (Xv ha);obtain⟨f0,f1,f2,f3⟩:=kI B9;have yf:=zcW B9;obtain⟨J,M,O,P⟩:=dM B1;have yz:=zcW B1;have cc:((i:Int) ≥ 0):=by omega
 obtain⟨av,ax,az,aS,aT⟩:=hC.cells;by_cases H:i<b[w].Zbp.length
 ·cases c:(k.1==0)
  ·have t3:wr.cell? ⟨u.heap.size,3,none⟩=some (slice AO b[w].Zbp.length (d (11+2*w)).cap):=(by rw[ab X,z.o];rfl);have p:Xq (mM b w b[w]=([],k)):=cm (by unfold mM;rw[hR.o,MN _ _ _ c];simp[we,c]);have q:(k.1 != 0)=true:=(by simp[bne,c]);clear hR E;(go_upto_region 13 with fail);go_region
   all_goals go_wp2
   all_goals exact XG (v:=tuple #[slice none 0 0,agg #[int i64 k.1,string k.2.ZbD,int i64 k.2.ZbE,int i64 k.2.ZbF]]) (by simp[results,results137,go_sem,J,M,O,P]) rfl ⟨⟨none,0⟩,by rw[p.o];rfl,by rw[p.o];exact XE _ _ _ _,by intro x a;simp[Hd.Zbx]at a,(mN KW (Xy _) _ _ _ _).drew⟩
  ·obtain⟨gp,ep,ca,b3,d0,d1,d2,d3⟩:=E.word i H;obtain rfl:AO=some ⟨gp,0,none⟩:=bd.o.symm.trans ep;have t3:wr.cell? ⟨u.heap.size,3,none⟩=some (slice (some ⟨gp,0,none⟩) b[w].Zbp.length (d (11+2*w)).cap):=(by rw[ab X,z.o];rfl);clear ep E;have ac:=b1.ZbF b[w].Zbp[i] (XM H);have b7:=Lc b[w].Zbp i H;have al:Xq _:=hR.o.trans (zaZ k b[w].Zbp l i H c);have am:=DJ b[w].Zbp[i].1 b[w].Zbp[i].2 ad;have TW:=Fh I.heap.size l y b[w].Zbp[i].1 b[w].Zbp[i].2.ZbD b[w].Zbp[i].2.ZbE b[w].Zbp[i].2.ZbF wr hC N ad (by omega) ac;clear hR;generalize b[w].Zbp[i]=wd at *;obtain⟨t,pf,pl,pc⟩:=wd;simp only at d0 d1 d2 d3 al am TW ac b7;generalize nB t ⟨pf,pl,pc⟩ l=Q at *;obtain⟨⟨qf,qp⟩,c2⟩:=Q;simp only at al am TW;unfold jh at TW;clear J M O P yz av ax az aS aT;go_wp2_with fail;refine TW.mono ?_;rintro e w7 ⟨rfl,H7,D7,Z⟩;have bs:∀x,(x=I.heap.size∨eG y x)->f.heap.size<=x:=by
    rintro x (e | e)
    ·omega
    ·exact aq x e
   have K7:=KW.ofP Z.1 bs;have q1:=Z.1.get B1 (by rintro (e | e);omega;exact n1 e);have q2:=Z.1.get X (by rintro (e | e);omega;exact n2 e);have q9:=Z.1.get B9 (by rintro (e | e);omega;exact n3 e);have m1:=Z.fresh f.heap.size bx n1;have m2:=Z.fresh u.heap.size bz n2;have m3:=Z.fresh g.heap.size bT n3;have y9:=zcW q9;have m4:∀x,eG H7 x->f.heap.size<=x:=fun x a=>by
    rcases Z.2 x a with e | e
    ·exact aq x e
    ·omega
   have kk:=fun a0 a1 a2 a3=>kJ (w:=w7) (r:=g.heap.size) a0 a1 a2 a3;have ai:Xq _:=kk;have b2:Xq (∀a0 a1 a2 a3,((((w7.setCell ⟨g.heap.size,0,none⟩ a0).setCell ⟨g.heap.size,1,none⟩ a1).setCell ⟨g.heap.size,2,none⟩ a2).setCell ⟨g.heap.size,3,none⟩ a3).heap[g.heap.size]?=some (.cells #[a0,a1,a2,a3] 165)):=by
    intro a0 a1 a2 a3;rw[ae (ae (ae (ae q9 _ _) _ _) _ _)];rfl
   clear kk bs d0 d1 d2 d3 t3 f0 f1 f2 f3 yf;obtain⟨g0,g1,g2,g3⟩:=kI q9;go_wp2;go_roundg (b[w].Zbp.length-(i+1))
   ·exact⟨i+1,c2,H7,(qf,qp),N+t.size,by omega,rfl,by go_num,am,by omega,al.o,aO.Zbw D7 (ai.o _ _ _ _) (by simp;omega) (by intro x a;simp;rintro rfl;exact m3 a),m4,mN K7 (by omega) _ _ _ _,(ai.o _ _ _ _).get q1 (by simp;omega),(ai.o _ _ _ _).get q2 (by simp;omega),b2.o _ _ _ _,m1,m2,m3⟩
   omega
 ·have t3:wr.cell? ⟨u.heap.size,3,none⟩=some (slice AO b[w].Zbp.length (d (11+2*w)).cap):=by rw[ab X,z.o];rfl
  cases c:(k.1==0)
  ·have p:Xq (mM b w b[w]=([],k)):=(by show _=_;unfold mM;rw[hR.o,MN _ _ _ c];simp[we,c]);have q:(k.1 != 0)=true:=(by simp[bne,c]);clear hR E;(go_upto_region 13 with fail);go_region
   all_goals go_wp2
   all_goals exact XG (v:=tuple #[slice none 0 0,agg #[int i64 k.1,string k.2.ZbD,int i64 k.2.ZbE,int i64 k.2.ZbF]]) (by simp[results,results137,go_sem,J,M,O,P]) rfl ⟨⟨none,0⟩,by rw[p.o];rfl,by rw[p.o];exact XE _ _ _ _,by intro x a;simp[Hd.Zbx]at a,(mN KW (Xy _) _ _ _ _).drew⟩
  ·have t4:wr.cell? ⟨u.heap.size,4,none⟩=some (string b[w].ZbC.ZbD):=(by rw[ab X,z.o];rfl);have t5:wr.cell? ⟨u.heap.size,5,none⟩=some (int i64 b[w].ZbC.ZbE):=(by rw[ab X,z.o];rfl);have t6:wr.cell? ⟨u.heap.size,6,none⟩=some (int i64 b[w].ZbC.ZbF):=(by rw[ab X,z.o];rfl);have HE:Xq (mM b w b[w]=we b[w].ZbC (dJ,l)):=cm (by unfold mM;rw[hR.o,VX _ _ _ _ H c]);have q:(k.1 != 0)=false:=(by simp[bne,c]);clear hR E;by_cases T:l.Zbl=0
   ·have b4:¬((l.Zbl:Int) > 0):=(by omega);by_cases V:l.steps.length=0
    ·have b8:((l.steps.length:Int)==0)=true:=(by simp[V]);have p:Xq (mM b w b[w]=([],(1,b[w].ZbC))):=cm (by rw[HE.o];simp[we,dJ,T,V]);obtain⟨D,j⟩:∃D,D=(((wr.setCell ⟨g.heap.size,0,none⟩ (int i64 1)).setCell ⟨g.heap.size,1,none⟩ (string b[w].ZbC.ZbD)).setCell ⟨g.heap.size,2,none⟩ (int i64 b[w].ZbC.ZbE)).setCell ⟨g.heap.size,3,none⟩ (int i64 b[w].ZbC.ZbF):=⟨_,rfl⟩
     have k8:aa [g.heap.size] wr D:=(by rw[j];exact kJ _ _ _ _);have K8:aa [] f D:=(by rw[j];exact mN KW (by omega) _ _ _ _);have B:D.heap[g.heap.size]?=some (.cells (JZ (1,b[w].ZbC)) 165):=by
      rw[j,ae (ae (ae (ae B9 _ _) _ _) _ _)];rfl
     have A:=k8.get B1 (by simp;omega);have C:Xq _:=j.symm;clear j k8;(go_upto_region 12 with fail);rw[C.o];clear C f0 f1 f2 f3 yf J M O P yz av ax az aS aT t3 t4 t5 t6 c q;obtain⟨f0,f1,f2,f3⟩:=kI B;have yf:=zcW B;obtain⟨J,M,O,P⟩:=dM A;have yz:=zcW A;(go_upto_region 13 with fail);go_region
     all_goals go_wp2
     all_goals exact XG (v:=tuple #[slice none 0 0,agg #[int i64 1,string b[w].ZbC.ZbD,int i64 b[w].ZbC.ZbE,int i64 b[w].ZbC.ZbF]]) (by simp[results,results137,go_sem,J,M,O,P]) rfl ⟨⟨none,0⟩,by rw[p.o];rfl,by rw[p.o];exact XE _ _ _ _,by intro x a;simp[Hd.Zbx]at a,(mN K8 (Xy _) _ _ _ _).drew⟩
    ·have b8:((l.steps.length:Int)==0)=false:=X6.2 (by omega);have p:Xq (mM b w b[w]=(l.steps,dJ)):=cm (by rw[HE.o];simp[we,dJ,T,V]);have bj:Xq (aD wr (y 2) (iO l.steps)):=aO.ZbH hC 2;have bg:Xq (∀x,(y 2).Zbx=some x->f.heap.size<=x/\x≠f.heap.size):=fun x a=>⟨aq x ⟨2,a⟩,fun e=>n1 ⟨2,e ▸ a⟩⟩
     clear V T;go_wp2;exact XG (v:=tuple #[slice (y 2).ao l.steps.length (y 2).cap,agg #[int i64 0,string ⟨#[]⟩,int i64 0,int i64 0]]) (by simp[results,results137,go_sem,J,M,O,P]) rfl
      ⟨y 2,by rw[p.o];rfl,by rw[p.o];exact bj.o.Zbo (fun x a=>(kJ (r:=f.heap.size) _ _ _ _).block x (bj.o.lt a) (by simp;exact(bg.o x a).2)),fun x a=>(bg.o x a).1,mN KW (Xy _) _ _ _ _⟩
   ·have b4:(l.Zbl:Int) > 0:=(by omega);have p:Xq (mM b w b[w]=([],(4,b[w].ZbC))):=cm (by rw[HE.o];simp[we,dJ,T]);obtain⟨D,j⟩:∃D,D=(((wr.setCell ⟨g.heap.size,0,none⟩ (int i64 4)).setCell ⟨g.heap.size,1,none⟩ (string b[w].ZbC.ZbD)).setCell ⟨g.heap.size,2,none⟩ (int i64 b[w].ZbC.ZbE)).setCell ⟨g.heap.size,3,none⟩ (int i64 b[w].ZbC.ZbF):=⟨_,rfl⟩
    have k8:aa [g.heap.size] wr D:=(by rw[j];exact kJ _ _ _ _);have K8:aa [] f D:=(by rw[j];exact mN KW (by omega) _ _ _ _);have B:D.heap[g.heap.size]?=some (.cells (JZ (4,b[w].ZbC)) 165):=by
     rw[j,ae (ae (ae (ae B9 _ _) _ _) _ _)];rfl
    have A:=k8.get B1 (by simp;omega);have C:Xq _:=j.symm;clear j k8;(go_upto_region 10 with fail);rw[C.o];clear C f0 f1 f2 f3 yf J M O P yz av ax az aS aT t3 t4 t5 t6 c q;obtain⟨f0,f1,f2,f3⟩:=kI B;have yf:=zcW B;obtain⟨J,M,O,P⟩:=dM A;have yz:=zcW A;(go_upto_region 13 with fail);go_region
    all_goals go_wp2
    all_goals exact XG (v:=tuple #[slice none 0 0,agg #[int i64 4,string b[w].ZbC.ZbD,int i64 b[w].ZbC.ZbE,int i64 b[w].ZbC.ZbF]]) (by simp[results,results137,go_sem,J,M,O,P]) rfl ⟨⟨none,0⟩,by rw[p.o];rfl,by rw[p.o];exact XE _ _ _ _,by intro x a;simp[Hd.Zbx]at a,(mN K8 (Xy _) _ _ _ _).drew⟩
def EA(s:St):Bool :=
 match s.Zbp with
 | []=>false
 | (t,_) :: _=>t.toList == [40]
def lY(l:List St)(a:Nat)(s:St):List oI×sB:=if EA s=true then mM l a s else gy l a s.ZbC s.Zbp []
theorem OL(hr:dQ f o L b d)(E:w<b.length)(N:iV b)(ad:CD b[w]) :
  Calls prog 99 #[pointer (some ⟨o,L,none⟩),int i64 w] f fun e w'=>∃a:Hd,
   e=returned (tuple #[slice a.ao (lY b w b[w]).1.length a.cap,jh (lY b w b[w]).2])/\aD w' a (iO (lY b w b[w]).1)/\(∀x,a.Zbx=some x->f.heap.size<=x)/\aa [] f w':=by
 have ai:=N.prfs w E;obtain⟨AO,F⟩:=aP ((d (11+2*w)).ao);obtain⟨W,M⟩:∃W,W=f.alloc (.cells #[int i64 0,string ⟨#[]⟩,int i64 0,int i64 0] 165):=⟨_,rfl⟩
 have K:=dx M.symm;have Q:W.heap[f.heap.size]?=some (.cells bM 165):=by rw[M];exact XD _ _
 have HW:Xq _:=M.symm;clear M;go_enter func99,ntmps99;go_upto_region 1 with fail
 rw[HW.o];go_wp2_with fail;refine(bu o L w b d _ (hr.Zbj K) E).mono ?_;rintro e w1 ⟨rfl,l⟩;unfold du;rw[F.o];obtain⟨D,j⟩:∃D,D=w1.alloc (.cells #[int i64 b[w].Zby,string b[w].Zbz,slice (d (10+2*w)).ao b[w].Zbe.length (d (10+2*w)).cap,slice AO b[w].Zbp.length (d (11+2*w)).cap,string b[w].ZbC.ZbD,int i64 b[w].ZbC.ZbE,int i64 b[w].ZbC.ZbF,int i64 b[w].til] 158):=⟨_,rfl⟩
 have G:Xq _:=j.symm;have S:aa [] f D:=by rw[j];exact(K.trans l).alloc _
 have BT:=dC j.symm;have R:D.heap[f.heap.size]?=some (.cells bM 165):=by rw[j];exact(bH.alloc _).get (l.get Q (by simp)) (by simp)
 have al:f.heap.size<w1.heap.size:=by have:=ah (l.get Q (by simp));omega
 have am:=ah BT;clear j;go_upto_region 2 with fail
 rw[G.o];clear HW G l Q K;obtain⟨-,-,-,t3,-⟩:=yY BT;have m:=hr.Zbj S;have k:=m.Zbv.prfs w b[w] (Xv E)
 have g:Xq (∀(c:World) (fl:sB) (a:Hd) (O:List oI),aa [] D c->(∀x,a.Zbx=some x->D.heap.size<=x)->aD c a (iO O)->lY b w b[w]=(O,fl) ->
   c.frozen? ⟨f.heap.size,0,none⟩=false/\c.frozen? ⟨f.heap.size,1,none⟩=false/\c.frozen? ⟨f.heap.size,2,none⟩=false/\c.frozen? ⟨f.heap.size,3,none⟩=false /\
   c.cell? ⟨f.heap.size,0,none⟩=some (int i64 0)/\c.cell? ⟨f.heap.size,1,none⟩=some (string ⟨#[]⟩)/\c.cell? ⟨f.heap.size,2,none⟩=some (int i64 0)/\c.cell? ⟨f.heap.size,3,none⟩=some (int i64 0) /\
   ∀T U V X,Xq (aa [] f ((((c.setCell ⟨f.heap.size,0,none⟩ T).setCell ⟨f.heap.size,1,none⟩ U).setCell ⟨f.heap.size,2,none⟩ V).setCell ⟨f.heap.size,3,none⟩ X)/\aD ((((c.setCell ⟨f.heap.size,0,none⟩ T).setCell ⟨f.heap.size,1,none⟩ U).setCell ⟨f.heap.size,2,none⟩ V).setCell ⟨f.heap.size,3,none⟩ X) a (iO O))):=by
  intro c fl a O s ac I he;have B9:=s.get R (by simp);obtain⟨z,A,B,C⟩:=dM B9;have P:=zcW B9;refine⟨P 0,P 1,P 2,P 3,z,A,B,C,fun T U V X=>⟨mN (S.trans s) (Xy _) _ _ _ _,I.Zbo (fun x q=>(kJ (r:=f.heap.size) _ _ _ _).block x (I.lt q) (by simp;rintro rfl;have:=ac _ q;omega))⟩⟩
 have y:=S.size;rcases hpr:b[w].Zbp with _ | ⟨⟨t,p⟩,r⟩
 ·have H:b[w].Zbp.length=0:=by rw[hpr];rfl
  have i:Xq (lY b w b[w]=gy b w b[w].ZbC b[w].Zbp []):=cm (by simp[lY,EA,hpr]);rw[H]at t3;clear hpr k;go_wp2_with (go_at_call 138;refine(tC o L w b d _ m E N).mono ?_;rintro e c ⟨a,rfl,J,u,s⟩;obtain⟨y0,y1,y2,y3,z,A,B,C,n⟩:=g.o c _ a _ s u J i.o;unfold jh);exact XG (v:=tuple #[slice a.ao (gy b w b[w].ZbC b[w].Zbp []).1.length a.cap,jh (gy b w b[w].ZbC b[w].Zbp []).2]) (by simp[results,results99,go_sem,z,A,B,C,jh]) rfl
   ⟨a,by rw[i.o],by rw[i.o];exact(n _ _ _ _).o.2,fun x q=>XF y (u x q),(n _ _ _ _).o.1⟩
 ·have H:b[w].Zbp.length=r.length+1:=by rw[hpr];rfl
  obtain⟨gp,Z,af,Y,d0,-,-,-⟩:=k.word 0 (by omega);obtain rfl:AO=some ⟨gp,0,none⟩:=F.o.symm.trans Z;have ag:((b[w].Zbp.length:Int) > 0):=by omega
  simp only[hpr,List.getElem_cons_zero]at d0;cases hc:(t.toList == [40])
  ·have i:Xq (lY b w b[w]=gy b w b[w].ZbC b[w].Zbp []):=(by show _=_;simp[lY,EA,hpr,hc]);clear hpr k Z;go_wp2_with (go_at_call 138;refine(tC o L w b d _ m E N).mono ?_;rintro e c ⟨a,rfl,J,u,s⟩;obtain⟨y0,y1,y2,y3,z,A,B,C,n⟩:=g.o c _ a _ s u J i.o;unfold jh);exact XG (v:=tuple #[slice a.ao (gy b w b[w].ZbC b[w].Zbp []).1.length a.cap,jh (gy b w b[w].ZbC b[w].Zbp []).2]) (by simp[results,results99,go_sem,z,A,B,C,jh]) rfl
    ⟨a,by rw[i.o],by rw[i.o];exact(n _ _ _ _).o.2,fun x q=>XF y (u x q),(n _ _ _ _).o.1⟩
  ·have i:Xq (lY b w b[w]=mM b w b[w]):=(by show _=_;simp[lY,EA,hpr,hc]);clear hpr k Z;go_wp2_with (go_at_call 137;refine(vA o L w b d _ m E N ad).mono ?_;rintro e c ⟨a,rfl,J,u,s⟩;obtain⟨y0,y1,y2,y3,z,A,B,C,n⟩:=g.o c _ a _ s u J i.o;unfold jh);exact XG (v:=tuple #[slice a.ao (mM b w b[w]).1.length a.cap,jh (mM b w b[w]).2]) (by simp[results,results99,go_sem,z,A,B,C,jh]) rfl
    ⟨a,by rw[i.o],by rw[i.o];exact(n _ _ _ _).o.2,fun x q=>XF y (u x q),(n _ _ _ _).o.1⟩
theorem RO:(prog.info? 61).map (fun i=>(i.zero,i.size,i.bytes))=some (some (slice none 0 0),1,24):=by kernel_rfl
structure Ex where
 hd:Hd
 xs:Xs
def Ae(e:Ex):Value:=slice e.hd.ao e.xs.length e.hd.cap
def Gn(l:List Ex):List Value:=l.map Ae
def iK(l:List Ex):eD:=⟨61,1,l.length,Gn l⟩
theorem xR(l:List Ex)(e:Ex):(⟨(iK l).e,(iK l).size,(iK l).n+1,(iK l).xs++[Ae e]⟩:eD)=iK (l++[e]):=by simp[iK,Gn]
theorem wi(l:List Ex)(k:Nat)(h:k<l.length):(Gn l)[k]?=some (Ae l[k]):=by simp[Gn,h]
theorem dB.keptP{P:Nat->Prop}(v:dB y N S)(k:fB P y I)(f:∀x,N.Zbx=some x->¬P x):dB I N S:=by
 rcases v with v | ⟨g,b,a,t,c,d,e⟩
 ·exact XQ v
 ·exact XK ⟨g,b,a,t,c,k.get d (f g (by unfold Hd.Zbx;rw[c];rfl)),e⟩
structure FB(w:World)(b:Nat)(H:Nat->Hd)(e:Ex):Prop where
 view:dB w e.hd e.xs
 adr:∃ad,e.hd.ao=some ad
 far:∀x,e.hd.Zbx=some x->x<w.heap.size/\x≠b/\¬eG H x
theorem FB.turned{f:Nat->Hd}{e:Ex}(h:FB y x k e)(t:aw x y k I f):FB I x f e:=by
 refine⟨h.view.keptP t.1 (fun a d=>?_),h.adr,fun a d=>?_⟩
 ·obtain⟨_,b,c⟩:=h.far a d;rintro (e | e)
  ·exact b e
  ·exact c e
 ·obtain⟨g,b,c⟩:=h.far a d;exact⟨XB g t.1.size,b,t.fresh a g c⟩
theorem FB.Zbj{e:Ex}(h:FB y x k e)(b:aa [] y I):FB I x k e :=
 ⟨h.view.Zbj b,h.adr,fun c a=>⟨XB (h.far c a).1 b.size,(h.far c a).2⟩⟩
def tG(vs:Xs)(be:List Ex):Nat->eD
 | 0=>aE vs
 | 1=>iK be
 | _+2=>aE []
def rL(vs:Xs)(be:List Ex)(H:Nat->Hd):List Value:=[slice (H 0).ao vs.length (H 0).cap,slice (H 1).ao be.length (H 1).cap]
structure oX(w:World)(b:Nat)(vs:Xs)(be:List Ex)(H:Nat->Hd):Prop where
 bag:aO w b 343 (rL vs be H) (tG vs be) H
 len:be.length=vs.length
 exs:∀e∈be,FB w b H e
theorem oX.Zbj{a:List Ex}(h:oX y x S a k)(b:aa [] y I):oX I x S a k:=⟨h.bag.Zbj b,h.len,fun e c=>(h.exs e c).Zbj b⟩
theorem oX.cells{a:List Ex}(h:oX y x S a k) :
  y.cell? ⟨x,0,none⟩=some (slice (k 0).ao S.length (k 0).cap)/\y.cell? ⟨x,1,none⟩=some (slice (k 1).ao a.length (k 1).cap):=⟨h.bag.cell 0,h.bag.cell 1⟩
def Jo(a b:Xs):Bool:=a.map (·.toList)==b.map (·.toList)
theorem U7(h:S.length≠M.length):Jo S M=false:=by
 unfold Jo;rw[X6];intro e;have:=congrArg List.length e;simp at this;exact h this
theorem zar(a:n<S.length)(b:n<M.length)(h:(S[n].toList==M[n].toList)=false):Jo S M=false:=by
 unfold Jo;rw[X6]at h ⊢;intro e;have:=congrArg (fun l=>l[n]?) e;simp[a,b]at this;exact h this
theorem Ml(c:S.length=M.length)(h:∀k (a:k<S.length) (b:k<M.length),(S[k].toList==M[k].toList)=true):Jo S M=true:=by
 unfold Jo;rw[ZX];apply ZaT
 ·simpa using c
 ·intro k a b;simp at a b ⊢;exact ZX.1 (h k a b)
set_option maxRecDepth 512
theorem CO(p q:Hd)(a b:Xs)(w:World)(Y:dB w p a)(Z:dB w q b)(U:a.length<=1073741824)(V:b.length<=1073741824) :
  Calls prog 210 #[slice p.ao a.length p.cap,slice q.ao b.length q.cap] w fun e w'=>e=returned (bool (Jo a b))/\aa [] w w':=by
 obtain⟨K,A⟩:=p;obtain⟨L,B⟩:=q;by_cases f:a.length=b.length
 ·have X:((a.length:Int) != b.length)=false:=by simp[f]
  by_cases H:a.length=0
  ·have d:Xq (Jo a b=true):=Ml f (fun k p q=>by omega);go_enter func210,ntmps210;go_wp2;refine Zv 1 ?_;rw[ZT];go_wp2;go_ret;exact⟨aH d.o.symm,aa.refl _ _⟩
  ·rcases Y with rfl | ⟨g,u,M,t,D,E,y,N,O⟩
   ·simp at H
   rcases Z with rfl | ⟨R,l,C,t',F,G,z,P,Q⟩
   ·simp at f;simp[f]at H
   simp only at D F N O P Q;subst D;subst F;go_enter func210,ntmps210;go_wp2
   go_loopg [5] a.length (fun gk i wr=>∃k:Nat,k<=a.length/\gk=a.length-k/\i=int i64 k/\Xq (∀i (v:i<a.length) (x:i<b.length),i<k->(a[i].toList==b[i].toList)=true)/\aa [] w wr)
   ·exact⟨0,by omega,by omega,rfl,fun i _ _ T=>by omega,aa.refl _ _⟩
   obtain⟨k,hk,hg,rfl,c,r⟩:=hrel;by_cases s:k<a.length
   ·have j:k<b.length:=(by omega);have c1:wr.cell? ⟨g,u+k,none⟩=some (string a[k]):=(ab (r.get E (by simp)) (u+k)).trans (y k a[k] (Xv s));have c2:wr.cell? ⟨R,l+k,none⟩=some (string b[k]):=(ab (r.get G (by simp)) (l+k)).trans (z k b[k] (Xv j));have W:(k:Int)<a.length:=(by omega);have J:(k:Int)<b.length:=(by omega);have m:Xq _:=zar k s j;have n:Xq ((a[k].toList==b[k].toList)=true->∀i (v:i<a.length) (x:i<b.length),i<k+1->(a[i].toList==b[i].toList)=true):=by
     intro S i v x T;by_cases e:i=k
     ·subst e;exact S
     ·exact c.o i v x (by omega)
    clear c y z E G;cases I:(a[k].toList==b[k].toList)
    ·have d:Xq _:=m.o I;clear m n f;(go_upto_region 6 with fail);go_quiet (fail);go_wp2;go_ret;exact⟨aH d.o.symm,r.drewN _⟩
    ·have d:Xq _:=n.o I;clear m n f;(go_upto_region 6 with fail);go_quiet (fail);go_wp2;go_roundg (a.length-(k+1))
     ·exact⟨k+1,by omega,rfl,by go_num,d.o,r.drewN _⟩
     omega
   ·have d:Xq (Jo a b=true):=Ml f (fun i v x=>c.o i v x (by omega));clear c y z;go_wp2;go_ret;exact⟨aH d.o.symm,r⟩
 ·have d:Xq (Jo a b=false):=U7 f;have X:((a.length:Int) != b.length)=true:=by simp[bne];omega
  go_enter func210,ntmps210;go_wp2;go_ret;exact⟨aH d.o.symm,aa.refl _ _⟩
theorem Pw(s:List Ex)(m:Nat->Hd)(x:Xr)(d:World)(h:oX d w H s m)(F:H.length<=1073741824) :
  Calls prog 277 #[pointer (some ⟨w,0,none⟩),string x] d fun e A=>e=returned (int i64 (iu (bZ H x)))/\A=d:=by
 obtain⟨t,u⟩:=h.cells;have l:=h.len;have a:aD d (m 0) (aE H):=h.bag.ZbH 0;rw[l]at u;go_enter func277,ntmps277;go_wp2
 go_loopg [5] H.length (fun g i wr=>∃k:Nat,k<=H.length/\g=H.length-k/\i=int i64 k/\Xq (∀i,i<k->((H.getD i ⟨#[]⟩).toList==x.toList)=false)/\wr=d)
 ·exact⟨0,by omega,by omega,rfl,fun i q=>by omega,rfl⟩
 obtain⟨k,E,D,rfl,b,rfl⟩:=hrel;by_cases c:k<H.length
 ·rcases a.Zbu with ⟨_,z,_⟩ | ⟨g,v,n,-,C,-⟩
  ·have:H.length=0:=z;omega
  ·have B:=a.cell n k (string H[k]) (pV H k c);rw[n]at t;have f:Xq _:=fO H k c;generalize H[k]=y at *;cases p:(y.toList==x.toList)
   ·have r:Xq (∀i,i<k+1->((H.getD i ⟨#[]⟩).toList==x.toList)=false):=by
     intro i q;by_cases e:i=k
     ·subst e;rw[f.o];exact p
     ·exact b.o i (by omega)
    clear f h a;go_wp2;go_roundg (H.length-(k+1))
    ·exact⟨k+1,by omega,rfl,by go_num,r,rfl⟩
    omega
   ·have j:Xq (bZ H x=some k):=jP c (by rw[f.o];exact p) b.o;clear f h a;go_wp2;go_ret;exact⟨au (by rw[j.o];rfl),rfl⟩
 ·have j:Xq (bZ H x=none):=jz (fun i q=>b.o i (by omega));clear h a;go_wp2;go_ret;exact⟨au (by rw[j.o];rfl),rfl⟩
theorem wY{P:Program}{A:Array Oper}{p:List Oper}{o:Oper}{a:Act}{Q:Exit->Act->World->Prop}(V:o.guard=none)(s x:Operand)(t:TypeId)(F:o.op=Op.call { callee:=Callee.builtin Builtin.append,args:=#[s,x],argTypes:=#[t,t] })(i:TypeInfo)(z:Value)(d:Nat)(h:Hd)(r:eD)(L:P.underlying t=some (.slice r.e))(M:P.info? r.e=some i)(N:i.zero=some z)(O:i.size=r.size)(R:i.bytes=d)(S:z.cells.size=r.size)(T:0<r.size)(X:a.eval s=slice h.ao r.n h.cap)(y:aD f h r)(C:Addr)(m c:Nat)(b:List Value)(Y:a.eval x=slice (some C) m c)(W:b.length=m*r.size)(U:∀j u,b[j]?=some u->f.cell? (C.add j)=some u)(E:∀u∈b,u.oneCell'=true)(J:r.n+m<=maxLen)(K:(r.n+m)*d<=140737488355328)(I:∀k q,aD q k ⟨r.e,r.size,r.n+m,r.xs++b⟩->f.grownBy q h.Zbx->(k.Zbx=h.Zbx∨k.Zbx=some f.heap.size)->wpList P A Q p (a.put o.dst (slice k.ao (r.n+m) k.cap)) q) :
  wpList P A Q (o :: p) a f:=by
 refine wpList_append_own_at f V s x t F 0 r.e i z r.size d L M N O R S T (slice h.ao r.n h.cap) r.n r.xs X y C m c b Y W U E J K (XX _) ?_;intro v' q G H Z B;rw[EY]at H B;rcases G.2 with ⟨v,w⟩ | ⟨g,l,D,v,w⟩
 ·have:=I ⟨none,0⟩ q ⟨G.1,XQ ⟨by rw[w],w⟩⟩ H (by rw[v]at B;exact B);rw[v];rw[w]at this;exact this
 ·have:=I ⟨some ⟨g,0,none⟩,l⟩ q ⟨G.1,XK ⟨g,l,D,rfl,w⟩⟩ H (by rw[v]at B;exact B);rw[v];exact this
def NF(vs:Xs)(bs:List Xs)(x:Xr):Xs:=match bZ vs x with | none=>[x] | some i=>bs.getD i []
def na(vs:Xs)(bs:List Xs):Xs->Xs->Xs
 | [],acc=>acc
 | x :: r,acc=>if acc.length<=32 then na vs bs r (acc++NF vs bs x) else acc
def tD(vs:Xs)(bs:List Xs)(sy:Xs):Xs:=na vs bs sy []
theorem Wg(c:n<i.length)(b:H.length<=32):na D a (i.drop n) H=na D a (i.drop (n+1)) (H++NF D a i[n]):=by
 rw[X0 c,na,XA b]
theorem Pc(b:¬H.length<=32):na D a i H=H:=by
 cases i with
 | nil=>rfl
 | cons x r=>rw[na,Xz b]
theorem Te(b:¬n<i.length):na D a (i.drop n) H=H:=by
 rw[YQ (by omega)];rfl
theorem QT(c:1<=n)(h:∀b∈a,b.length<=n):(NF D a T).length<=n:=by
 unfold NF;split
 ·simpa using c
 ·next i _ =>
  rw[Xw];cases e:a[i]? with
  | none=>simp
  | some b=>simpa using h b (YH e)
theorem KP(f:1<=n)(h:∀b∈a,b.length<=n)(e c:Xs)(d:c.length<=32+n):(na D a e c).length<=32+n:=by
 induction e generalizing c with
 | nil=>exact d
 | cons x r g =>
  rw[na];split
  ·have:=QT D a x n f h;exact g _ (by simp;omega)
  ·exact d
theorem Pb(d:1<=n)(h:∀b∈a,b.length<=n)(c:Xs):(tD D a c).length<=32+n:=KP D a n d h c [] (by simp)
theorem Pn:(⟨(aE i).e,(aE i).size,(aE i).n+H.length,(aE i).xs++dc H⟩:eD)=aE (i++H):=by simp[aE,dc]
theorem dB.cells{d:Addr}(v:dB y N S)(e:N.ao=some d):∀j u,(dc S)[j]?=some u->y.cell? (d.add j)=some u:=by
 intro j u i;rcases v with rfl | ⟨g,a,k,t,f,l,m,-⟩
 ·simp[dc]at i
 ·rw[e]at f;cases f
  have b:(S[j]?).map string=some u:=by simpa [dc] using i
  cases c:S[j]? with
  | none=>rw[c]at b;cases b
  | some x =>
   rw[c]at b;cases b;have:(⟨g,a,none⟩:Addr).add j=⟨g,a+j,none⟩:=by
    simp only[Addr.add];split
    ·next n=>subst n;rfl
    ·rfl
   rw[this,ab l];exact m j x c
set_option maxRecDepth 100000
theorem yE(f:List Ex)(ag:Nat->Hd)(hy:Hd)(d:Xs)(B:World)(h:oX B w H f ag)(hl:H.length<=10000)(am:∀e∈f,e.xs.length<=10000)(hv:dB B hy d)(ap:d.length<=10000) :
  Calls prog 273 #[pointer (some ⟨w,0,none⟩),slice hy.ao d.length hy.cap] B fun e w'=>∃m:Hd,
   e=returned (slice m.ao (tD H (f.map Ex.xs) d).length m.cap)/\aD w' m (aE (tD H (f.map Ex.xs) d))/\(∀x,m.Zbx=some x->B.heap.size<=x)/\aa [] B w':=by
 obtain⟨i0,hi,Y,Z,ac⟩:=XV i9;obtain⟨ao,ar⟩:=hy;rcases hv with rfl | ⟨g,af,av,t,e1,e2,e3,e4,e5⟩
 ·clear ap;go_enter func273,ntmps273;go_wp2;refine Zv 1 ?_;rw[ZT];go_wp2;go_ret;exact⟨⟨none,0⟩,rfl,XE _ _ _ _,by intro x v;simp[Hd.Zbx]at v,aa.refl _ _⟩
 simp only at e1 e4 e5;subst e1;obtain⟨R,HR⟩:∃R,Xq (R=tD H (f.map Ex.xs) d):=⟨_,rfl⟩
 rw[<-HR.o];go_enter func273,ntmps273;go_wp2
 go_loopg [5,6] d.length (fun gk sv i wr=>∃(k:Nat) (m:Hd) (a:Xs),k<=d.length/\gk=d.length-k/\i=int i64 k/\sv=slice m.ao a.length m.cap/\a.length<=10032/\Xq (R=na H (f.map Ex.xs) (d.drop k) a)/\aD wr m (aE a)/\(∀x,m.Zbx=some x->B.heap.size<=x)/\aa [] B wr)
 ·exact⟨0,⟨none,0⟩,[],by omega,by omega,rfl,rfl,by simp,HR.o,XE _ _ _ _,by intro x v;simp[Hd.Zbx]at v,aa.refl _ _⟩
 obtain⟨k,m,a,hk,hg,rfl,rfl,az,r,Q,L,D⟩:=hrel;have T:=h.Zbj D;by_cases J:k<d.length
 ·by_cases ha:a.length<=32
  ·have al:(a.length:Int)<=32:=(by omega);have c2:wr.cell? ⟨g,af+k,none⟩=some (string d[k]):=(ab (D.get e2 (by simp)) (af+k)).trans (e3 k d[k] (Xv J));have z:Xq _:=r.o.trans (Wg H (f.map Ex.xs) d a k J ha);have N:Xq _:=(fun w1 h1=>Pw w H f ag d[k] w1 h1 (by omega));clear r e3;generalize d[k]=y at *;rcases hp:bZ H y with _ | p
   ·have c:Xq (R=na H (f.map Ex.xs) (d.drop (k+1)) (a++[y])):=(by show _=_;rw[z.o];simp[NF,hp]);have S:=Q.Zbo (fun x v=>((aa.refl [] wr).alloc (.cells #[string y] 9)).block x (Q.lt v) (by simp));clear z;(go_upto_region 7 with (go_at_call 277;refine(N.o _ T).mono ?_;rintro e w3 ⟨rfl,K⟩;rw[K,hp];simp only[iu]));go_wp2_with (at_builtin;refine aR _ rfl (.tmp 27) (.tmp 32) 61 rfl i0 (string ⟨#[]⟩) 16 m (aE a) underlying61 hi Y Z ac rfl XR rfl (by exact S) ⟨_,0,none⟩ 1 1 [string y] rfl rfl ?d1 ?d2 XR ?d3 ?d4 ?_)
    case d1=>intro j u hj;match j,hj with | 0,hj=>simp at hj;subst hj;simp[Addr.add]
    case d2=>intro u X;simp at X;subst X;rfl
    case d3=>simp only[aE];unfold maxLen;omega
    case d4=>simp only[aE];omega
    intro g5 O w5 s l b;rw[dy a y]at s;have P:=D.alloc (.cells #[string y] 9);have E:=P.grown l L;have V:B.heap.size<=g5:=by
     rcases b with e | e
     ·exact L g5 e
     ·have:=P.size;simp at e this;omega
    have C:Xq ((aE a).n+1=(a++[y]).length):=cm (by simp[aE]);rw[C.o];clear l b S;go_wp2;go_roundg (d.length-(k+1))
    ·exact⟨k+1,⟨some ⟨g5,0,none⟩,O⟩,a++[y],by omega,rfl,by go_num,rfl,by simp;omega,c.o,s,by intro x v;simp[Hd.Zbx]at v;omega,E⟩
    omega
   ·have aT:p<H.length:=by
     have:=XS hp;simpa using this
    have aS:=h.len;have A:p<f.length:=(by omega);have c:Xq (R=na H (f.map Ex.xs) (d.drop (k+1)) (a++f[p].xs)):=cm (by rw[z.o];simp[NF,hp,A]);have I:=T.exs f[p] (XM A);have an:=am f[p] (XM A);obtain⟨ad,G⟩:=I.adr;have W:=I.view.cells G;obtain⟨s0,s1⟩:=T.cells;have F:aD wr (ag 1) (iK f):=T.bag.ZbH 1;rcases F.Zbu with ⟨_,h0,_⟩ | ⟨gb,aq,eb,-,ax,-⟩
    ·have:f.length=0:=h0;omega
    have cb:=F.cell eb p (Ae f[p]) (wi f p A);rw[eb]at s1;unfold Ae at cb;rw[G]at cb;have M:Xq _:=W;clear z I G W F eb;generalize f[p]=ex at *;obtain⟨ai,q⟩:=ex;simp only at cb an c M;(go_upto_region 8 with (go_at_call 277;refine(N.o _ T).mono ?_;rintro e w3 ⟨rfl,K⟩;rw[K,hp];simp only[iu]));go_wp2_with (at_builtin;refine wY _ rfl (.tmp 34) (.tmp 41) 61 rfl i0 (string ⟨#[]⟩) 16 m (aE a) underlying61 hi Y Z ac rfl XR rfl (by exact Q) ad q.length ai.cap (dc q) rfl (by simp[dc,aE]) M.o ?d2 ?d3 ?d4 ?_)
    case d2=>intro u X;simp[dc]at X;obtain⟨_,_,rfl⟩:=X;rfl
    case d3=>simp only[aE];unfold maxLen;omega
    case d4=>simp only[aE];omega
    intro U w5 s l b;rw[Pn a q]at s;have E:=D.grown l L;have V:∀x,U.Zbx=some x->B.heap.size<=x:=by
     intro x v;rcases b with e | e
     ·exact L x (e ▸ v)
     ·rw[e]at v;cases v;exact D.size
    have C:Xq ((aE a).n+q.length=(a++q).length):=cm (by simp[aE]);rw[C.o];clear l b;go_wp2;go_roundg (d.length-(k+1))
    ·exact⟨k+1,U,a++q,by omega,rfl,by go_num,rfl,by simp;omega,c.o,s,V,E⟩
    omega
  ·have al:¬(a.length:Int)<=32:=(by omega);have c:Xq (a=R):=(r.o.trans (Pc _ _ _ _ ha)).symm;clear r e3;go_wp2;go_ret;exact⟨m,by rw[<-c.o];rfl,by rw[<-c.o];exact Q,L,D⟩
 ·have c:Xq (a=R):=(r.o.trans (Te _ _ _ _ _ J)).symm;clear r e3;go_wp2;go_ret;exact⟨m,by rw[<-c.o];rfl,by rw[<-c.o];exact Q,L,D⟩
def pF(s:St)(e:Xs)(S:Xs×List Xs):Int×Xs×List Xs :=
 if(s.Zby==3)=true then(if Jo (tD S.1 S.2 s.Zbe) e=true then(0,S) else(8,S))
 else match e with
  | []=>(7,S)
  | x :: r=>if(x.toList==(aZ s).toList)=true then(0,S.1++[aB s],S.2++[r]) else(7,S)
structure uR(w:World)(b:Nat)(H:Nat->Hd)(h:Hd)(l:Xs):Prop where
 view:dB w h l
 far:∀x,h.Zbx=some x->x<w.heap.size/\x≠b/\¬eG H x
theorem uR.Zbj(f:uR y x k N S)(b:aa [] y I):uR I x k N S :=
 ⟨f.view.Zbj b,fun c a=>⟨XB (f.far c a).1 b.size,(f.far c a).2⟩⟩
def kD(g off cap:Nat)(r:Xs):Ex:=⟨⟨if cap=1 then some ⟨g,off,none⟩ else some ⟨g,off+1,none⟩,cap-1⟩,r⟩
theorem TT:(kD o L w H).hd.Zbx=some o:=by unfold kD Hd.Zbx;simp only;split <;> rfl
theorem WB{g a:Nat}{s:Xr}(h:uR y x k ⟨some ⟨g,a,none⟩,n⟩ (s :: S)):FB y x k (kD g a n S):=by
 have q:(kD g a n S).hd.Zbx=some g:=by unfold kD Hd.Zbx;simp only;split <;> rfl
 refine⟨?_,?_,fun d b=>h.far d (by rw[q]at b;exact b)⟩
 ·by_cases e:S=[]
  ·subst e;exact XQ rfl
  ·rcases h.view with r | ⟨u,f,c,t,i,l,m,o,p⟩
   ·cases r
   ·cases i
    have v:0<S.length:=Zaf.2 e;simp only[List.length_cons]at o;refine XK ⟨g,a+1,c,t,by simp only[kD];rw[Xz (by omega)],l,fun j d b=>?_,by simp only[kD];omega,by simp only[kD]at p ⊢;omega⟩;have:=m (j+1) d (by simpa [kD] using b);rw[show a+1+j=a+(j+1) by omega];exact this
 ·unfold kD;simp only;split
  ·exact⟨_,rfl⟩
  ·exact⟨_,rfl⟩
theorem Vd(a:List Ex)(l:Nat->Hd)(s:St)(E G O:Hd)(D:Xs)(i:World)(h:oX i w H a l)(hl:H.length<=9999)(ad:∀e∈a,e.xs.length<=10000)(hs:dB i E s.Zbe)(aS:s.Zbe.length<=10000)(hx:uR i w l O D)(bk:D.length<=10000) :
  Calls prog 271 #[pointer (some ⟨w,0,none⟩),du s E G,slice O.ao D.length O.cap] i fun e d=>∃(S:List Ex) (H':Nat->Hd),
   e=returned (int i64 (pF s D (H,a.map Ex.xs)).1)/\oX d w (pF s D (H,a.map Ex.xs)).2.1 S H'/\S.map Ex.xs=(pF s D (H,a.map Ex.xs)).2.2/\aw w i l d H'/\∀e∈S,e∈a∨e.hd.Zbx=O.Zbx:=by
 obtain⟨i0,hi,a3,a4,a5⟩:=XV i9;obtain⟨i1,av,a0,a1,a2⟩:=XV RO;have bg:a.length<=9999:=by have:=h.len;omega
 unfold du;obtain⟨W,hW⟩:∃W,W=i.alloc (.cells #[int i64 s.Zby,string s.Zbz,slice E.ao s.Zbe.length E.cap,slice G.ao s.Zbp.length G.cap,string s.ZbC.ZbD,int i64 s.ZbC.ZbE,int i64 s.ZbC.ZbF,int i64 s.til] 158):=⟨_,rfl⟩
 have K:=dx hW.symm;have B:=dC hW.symm;have HW:Xq _:=hW.symm;obtain⟨u0,u1,u2,u3,u4,u5,u6,u7⟩:=yY B;have V:=h.Zbj K;have M:=hs.Zbj K;have ap:=hx.Zbj K;clear hW;cases Q:(s.Zby==3)
 ·rcases D with _ | ⟨x,r⟩
  ·have v:Xq (pF s [] (H,a.map Ex.xs)=(7,H,a.map Ex.xs)):=(by show _=_;simp[pF,Q]);clear u1 u2 u3 u4 u5 u6 u7;go_enter func271,ntmps271;(go_upto_region 1 with fail);rw[HW.o];(go_upto_region 5 with fail);go_quiet (fail);go_wp2;go_ret;exact⟨a,l,au (by rw[v.o]),by rw[v.o];exact V.Zbj (bH.drewN _),by rw[v.o],(aw.refl _ _ _).Zbj (K.drewN _),fun _ q=>XQ q⟩
  ·obtain⟨bc,b⟩:=O;rcases ap.view with ai | ⟨g,c,bd,t,e1,e2,e3,e4,e5⟩
   ·cases ai
   simp only at e1 e4 e5;subst e1;have ax:¬((r.length:Int)+1==0)=true:=by simp;omega
   have HN:Xq ((x :: r).length=r.length+1):=rfl;have bj:(0:Int)<(r.length:Int)+1:=(by omega);have ba:(1:Int)<=(r.length:Int)+1:=(by omega);rw[HN.o]at *;have cx:W.cell? ⟨g,c,none⟩=some (string x):=by have:=(ab e2 c).trans (by simpa using e3 0 x rfl);exact this
   have TC:=rO s E G;unfold du at TC;have Z:Xq _:=TC;have HC:Xq (∀d,aa [] W.drew d->d.cell? ⟨g,c,none⟩=some (string x)/\d.cell? ⟨i.heap.size,0,none⟩=some (int i64 s.Zby)/\d.cell? ⟨i.heap.size,1,none⟩=some (string s.Zbz)/\d.cell? ⟨i.heap.size,2,none⟩=some (slice E.ao s.Zbe.length E.cap)/\d.cell? ⟨i.heap.size,3,none⟩=some (slice G.ao s.Zbp.length G.cap)/\d.cell? ⟨i.heap.size,4,none⟩=some (string s.ZbC.ZbD)/\d.cell? ⟨i.heap.size,5,none⟩=some (int i64 s.ZbC.ZbE)/\d.cell? ⟨i.heap.size,6,none⟩=some (int i64 s.ZbC.ZbF)/\d.cell? ⟨i.heap.size,7,none⟩=some (int i64 s.til)):=by
    intro d k;have q:=k.get (show W.drew.heap[i.heap.size]?=_ from B) (by simp);have q2:=k.get (show W.drew.heap[g]?=_ from e2) (by simp);refine⟨(ab q2 c).trans (by simpa using e3 0 x rfl),?_,?_,?_,?_,?_,?_,?_,?_⟩ <;> (rw[ab q];rfl)
   clear TC e3;go_enter func271,ntmps271;(go_upto_region 1 with fail);rw[HW.o];(go_upto_region 5 with fail);cases hc:(x.toList==(aZ s).toList)
   ·have v:Xq (pF s (x :: r) (H,a.map Ex.xs)=(7,H,a.map Ex.xs)):=(by show _=_;simp[pF,Q,hc]);go_region_held3 (fun d=>d.cell? ⟨g,c,none⟩=some (string x)/\d.cell? ⟨i.heap.size,0,none⟩=some (int i64 s.Zby)/\d.cell? ⟨i.heap.size,1,none⟩=some (string s.Zbz)/\d.cell? ⟨i.heap.size,2,none⟩=some (slice E.ao s.Zbe.length E.cap)/\d.cell? ⟨i.heap.size,3,none⟩=some (slice G.ao s.Zbp.length G.cap)/\d.cell? ⟨i.heap.size,4,none⟩=some (string s.ZbC.ZbD)/\d.cell? ⟨i.heap.size,5,none⟩=some (int i64 s.ZbC.ZbE)/\d.cell? ⟨i.heap.size,6,none⟩=some (int i64 s.ZbC.ZbF)/\d.cell? ⟨i.heap.size,7,none⟩=some (int i64 s.til)) (go_keep) (first | (go_at_call 190;refine(Z.o _ (by exact M.Zbj bH.drew) (by omega)).mono ?_;rintro e U ⟨rfl,F⟩;obtain⟨x0,x1,x2,x3,x4,x5,x6,x7,x8⟩:=HC.o U F))
    all_goals
     clear u0 u1 u2 u3 u4 u5 u6 u7 cx;go_wp2;go_ret;exact⟨a,l,au (by rw[v.o]),by rw[v.o];exact V.Zbj ((bH.drew).trans F),by rw[v.o],(aw.refl _ _ _).Zbj (K.drew.trans F),fun _ q=>XQ q⟩
   ·have v:Xq (pF s (x :: r) (H,a.map Ex.xs)=(0,H++[aB s],a.map Ex.xs++[r])):=(by show _=_;simp[pF,Q,hc]);have VA:=jD s E G;unfold du at VA;have aq:Xq _:=VA;clear VA;go_region_held3 (fun d=>d.cell? ⟨g,c,none⟩=some (string x)/\d.cell? ⟨i.heap.size,0,none⟩=some (int i64 s.Zby)/\d.cell? ⟨i.heap.size,1,none⟩=some (string s.Zbz)/\d.cell? ⟨i.heap.size,2,none⟩=some (slice E.ao s.Zbe.length E.cap)/\d.cell? ⟨i.heap.size,3,none⟩=some (slice G.ao s.Zbp.length G.cap)/\d.cell? ⟨i.heap.size,4,none⟩=some (string s.ZbC.ZbD)/\d.cell? ⟨i.heap.size,5,none⟩=some (int i64 s.ZbC.ZbE)/\d.cell? ⟨i.heap.size,6,none⟩=some (int i64 s.ZbC.ZbF)/\d.cell? ⟨i.heap.size,7,none⟩=some (int i64 s.til)) (go_keep) (first | (go_at_call 190;refine(Z.o _ (by exact M.Zbj bH.drew) (by omega)).mono ?_;rintro e U ⟨rfl,F⟩;obtain⟨x0,x1,x2,x3,x4,x5,x6,x7,x8⟩:=HC.o U F))
    all_goals
     have ac:=V.Zbj ((bH.drew).trans F);obtain⟨m0,m1⟩:=ac.cells;have aT:=M.Zbj ((bH.drew).trans F);clear u0 u1 u2 u3 u4 u5 u6 u7 cx x0;(go_upto_region 7 with fail);have s4:Xq ((aE H).n+1<=maxLen):=(by show _<=_;simp only[aE];unfold maxLen;omega);have s5:Xq (((aE H).n+1)*16<=140737488355328):=(by show _<=_;simp only[aE];omega);have s3:Xq (∀u∈([string (aB s)]:List Value),u.oneCell'=true):=(by intro u hu;simp at hu;subst hu;rfl);have ar:Xq (∀L,aa [] U.drew L->oX L w H a l/\oX (L.alloc (.cells #[string (aB s)] 9)) w H a l/\∀j u,([string (aB s)]:List Value)[j]?=some u->(L.alloc (.cells #[string (aB s)] 9)).cell? ((⟨L.heap.size,0,none⟩:Addr).add j)=some u):=by
      intro L k;have q:=ac.Zbj (((aa.refl [] U).drew).trans k);refine⟨q,q.Zbj (bH.alloc _),fun j u I=>?_⟩;have Q:(L.alloc (.cells #[string (aB s)] 9)).heap[L.heap.size]?=some (.cells #[string (aB s)] 9):=XD _ _;rw[bE,ab Q];simpa using I
     have az:Xq (∀j,j≠0->tG (H++[aB s]) a j=tG H a j):=by
      intro j I
      match j,I with
      | 0,I=>exact absurd rfl I
      | 1,_=>rfl
      | m+2,_=>rfl
     go_region_law (first | (refine bB rfl (.tmp 32) (.tmp 35) 61 rfl i0 (string ⟨#[]⟩) 16 (l 0) (aE H) underlying61 hi a3 a4 a5 rfl XR (by simp[Act.eval] <;> rfl) (y1.bag.ZbH 0) ⟨_,0,none⟩ 1 1 [string (aB s)] (by simp[Act.eval] <;> rfl) rfl y2 s3.o XR s4.o s5.o ?_;intro J f w5 am ag C;obtain⟨k5,f5,HP⟩:=aO.app y1.bag (cs':=rL (H++[aB s]) a (gj l 0 ⟨some ⟨J,0,none⟩,f⟩)) (rows':=tG (H++[aB s]) a) 0 0 J f ((aE H).n+1) _ am (dy H (aB s)) ag (by simpa using C) az.o (slice (l 0).ao H.length (l 0).cap) rfl (by simp[rL,gj,aE]);clear am ag C) | (go_simp;go_at_call 188;refine(aq.o _ (by exact aT.Zbj bH.drew) (by omega)).mono ?_;rintro e L ⟨rfl,k4⟩;obtain⟨y0,y1,y2⟩:=ar.o L k4;obtain⟨n0,n1⟩:=y0.cells;obtain⟨p0,p1⟩:=y1.cells))
     all_goals
      generalize hX:w5.setCell ⟨w,0,none⟩ (slice (some ⟨J,0,none⟩) ((aE H).n+1) f)=X at HP ⊢;have T5:Xq (aw w i l X (gj l 0 ⟨some ⟨J,0,none⟩,f⟩)):=(((HP.o.2.first (bH.alloc _)).first (((aa.refl [] U).drew).trans k4)).first (K.drew.trans F));have D5:=HP.o.1;have q1:=D5.cell 1;have bf:=D5.lt;simp only[rL,List.getElem?_cons_succ,List.getElem?_cons_zero]at q1;clear hX k5 f5 n0 n1 p0 p1 y0 y1 y2 m0 m1 x1 x2 x3 x4 x5 x6 x7 x8;(go_upto_region 8 with fail);have hD:Xq (aO (X.alloc (.cells #[Ae (kD g c b r)] 61)).drew w 343 (rL (H++[aB s]) a (gj l 0 ⟨some ⟨J,0,none⟩,f⟩)) (tG (H++[aB s]) a) (gj l 0 ⟨some ⟨J,0,none⟩,f⟩)):=D5.Zbj ((aa.refl [] X).alloc _).drew;have s2:Xq (∀j u,([Ae (kD g c b r)]:List Value)[j]?=some u->(X.alloc (.cells #[Ae (kD g c b r)] 61)).drew.cell? ((⟨X.heap.size,0,none⟩:Addr).add j)=some u):=by
       intro j u I;have Q:(X.alloc (.cells #[Ae (kD g c b r)] 61)).drew.heap[X.heap.size]?=some (.cells #[Ae (kD g c b r)] 61):=XD _ _;rw[bE,ab Q];simpa using I
      have T:Xq (∀u∈([Ae (kD g c b r)]:List Value),u.oneCell'=true):=(by intro u hu;simp at hu;subst hu;rfl);have a6:Xq ((iK a).n+1<=maxLen):=(by show _<=_;simp only[iK];unfold maxLen;omega);have a7:Xq (((iK a).n+1)*24<=140737488355328):=(by show _<=_;simp only[iK];omega);have al:Xq (∀j,j≠1->tG (H++[aB s]) (a++[kD g c b r]) j=tG (H++[aB s]) a j):=by
       intro j I
       match j,I with
       | 0,_=>rfl
       | 1,I=>exact absurd rfl I
       | m+2,_=>rfl
      unfold Ae at hD s2 T;simp only[kD]at hD s2 T;go_region_law (refine bB rfl (.tmp 43) (.tmp 46) 218 rfl i1 (slice none 0 0) 24 (gj l 0 ⟨some ⟨J,0,none⟩,f⟩ 1) (iK a) underlying218 av a0 a1 a2 rfl XR (by simp[Act.eval] <;> rfl) (hD.o.ZbH 1) ⟨X.heap.size,0,none⟩ 1 1 _ (by simp[Act.eval]) rfl s2.o T.o XR a6.o a7.o ?_;intro g6 N w6 an P p;obtain⟨k6,f6,Y⟩:=aO.app hD.o (cs':=rL (H++[aB s]) (a++[kD g c b r]) (gj (gj l 0 ⟨some ⟨J,0,none⟩,f⟩) 1 ⟨some ⟨g6,0,none⟩,N⟩)) (rows':=tG (H++[aB s]) (a++[kD g c b r])) 1 1 g6 N ((iK a).n+1) _ an (xR a (kD g c b r)) P (by simpa using p) al.o (slice (gj l 0 ⟨some ⟨J,0,none⟩,f⟩ 1).ao a.length (gj l 0 ⟨some ⟨J,0,none⟩,f⟩ 1).cap) rfl (by simp[rL,gj,iK]);clear an P p)
      all_goals
       have T6:Xq _:=T5.o.trans (Y.o.2.first (bH.alloc _).drew);clear q1 k6 f6;generalize (if b=1 then some (⟨g,c,none⟩:Addr) else some ⟨g,c+1,none⟩)=AE;go_wp2;go_ret;refine⟨a++[kD g c b r],_,au (by rw[v.o]),?_,by rw[v.o];simp[kD],T6.o,fun e q=>by rw[X9]at q;rcases q with q | q;exact XQ q;simp at q;subst q;exact XK (TT g c b r)⟩;rw[v.o];refine⟨Y.o.1,by simp[h.len],?_⟩;intro e A;rw[X9]at A;rcases A with A | A
       ·exact(h.exs e A).turned T6.o
       ·simp at A;subst A;exact(WB b hx).turned T6.o
 ·go_enter func271,ntmps271;go_upto_region 1 with fail
  rw[HW.o];have RA:=yE w H a l E s.Zbe W V (by omega) ad M aS;have RL:=Pb H (a.map Ex.xs) 10000 (by omega) (by intro y hy;obtain⟨e,O,rfl⟩:=YN.1 hy;exact ad e O) s.Zbe;have v:Xq (pF s D (H,a.map Ex.xs)=if Jo (tD H (a.map Ex.xs) s.Zbe) D=true then(0,H,a.map Ex.xs) else(8,H,a.map Ex.xs)):=cm (by simp[pF,Q]);generalize tD H (a.map Ex.xs) s.Zbe=R at *;clear u1 u3 u4 u5 u6 u7;go_wp2_with fail;refine RA.mono ?_;rintro e w2 ⟨hd,rfl,ho,hn,k2⟩;go_wp2_with fail;refine(CO hd O R D w2 ho.view (ap.view.Zbj k2) (by omega) (by omega)).mono ?_;rintro e U ⟨rfl,F⟩;cases af:Jo R D
  ·have z:Xq (pF s D (H,a.map Ex.xs)=(8,H,a.map Ex.xs)):=(by show _=_;rw[v.o,af];simp);clear v RA;go_wp2;go_ret;exact⟨a,l,au (by rw[z.o]),by rw[z.o];exact(V.Zbj k2).Zbj F,by rw[z.o],(aw.refl _ _ _).Zbj ((K.trans k2).trans F),fun _ q=>XQ q⟩
  ·have z:Xq (pF s D (H,a.map Ex.xs)=(0,H,a.map Ex.xs)):=(by show _=_;rw[v.o,af];simp);clear v RA;go_wp2;go_ret;exact⟨a,l,au (by rw[z.o]),by rw[z.o];exact(V.Zbj k2).Zbj F,by rw[z.o],(aw.refl _ _ _).Zbj ((K.trans k2).trans F),fun _ q=>XQ q⟩
end Go.Proofs.YtpdholcaobgofaaGreat
