import Derived.Deep.QuietTactic
import Derived.BigQuiet
import Derived.Test.YtpdholcaobgofaaGreatP13
import Derived.Test.YtpdholcaobgofaaGreatP19
namespace Go.Proofs.YtpdholcaobgofaaGreat
open Go.RowKit Tryz
open Value IntKind Ending
set_option maxHeartbeats 0
variable{y v t s:Nat}{z:Xs}{z0:Nat->Nat->Nat->Nat}(u q:Nat)(p:Hd)(l:Xs)(o:Nat)(T:Xs)(N x:Nat)(I:Nat->Nat->Nat->Nat)(d:Nat)(i:Nat->Nat->Nat)(D H:Nat)(M:Int)(S:Nat)(n:World)(A:List dZ)
def iH(L K:Nat)(f:Nat->Nat->Nat):Xu:=(List.range (L*K)).map (fun t=>f (t / K) (t % K))
theorem pO(a:y<t)(b:v<s):y*s+v<t*s:=by
 have:(y+1)*s<=t*s:=ZM _ a;rw[Zac]at this;omega
theorem sQ(a:v<t):(y*t+v) / t=y:=by
 rw[ZF,Za5 (by omega),ZaZ a,YM]
theorem sR(a:v<t):(y*t+v) % t=v:=by
 rw[ZF,Nat.mul_add_mod,Nat.mod_eq_of_lt a]
theorem xC:(iH x d i).length=x*d:=by simp[iH]
theorem Ar(b:y<t)(a:v<s):(iH t s i)[y*s+v]?=some (i y v):=by
 have:=pO b a;simp[iH,this,sQ a,sR a]
def nY(f:Nat->Nat->Nat)(l c v:Nat):Nat->Nat->Nat:=fun a b=>if a=l/\b=c then v else f a b
theorem C0(l:y<t)(b:v<s):(iH t s i).set (y*s+v) S=iH t s (nY i y v S):=by
 have c:=pO l b;apply YR;intro a;rw[Yv];by_cases d:a<t*s
 ·have e:(iH t s (nY i y v S))[a]?=some (nY i y v S (a / s) (a % s)):=by simp[iH,d]
  rw[e,xC];by_cases h:y*s+v=a
  ·subst h;rw[XA rfl,XA c,sQ b,sR b];simp[nY]
  ·rw[Xz h];have m:¬(a / s=y/\a % s=v):=by
    rintro ⟨j,k⟩;have:=Nat.div_add_mod a s;rw[j,k,ZF]at this;exact h this
   simp[iH,d,nY,m]
 ·have f:(iH t s i)[a]?=none:=Yb (by rw[xC];omega);have g:(iH t s (nY i y v S))[a]?=none:=Yb (by rw[xC];omega);rw[f,g,Xz (by omega)]
theorem xB{f g:Nat->Nat->Nat}(h:∀l c,l<y->c<v->f l c=g l c):iH y v f=iH y v g:=by
 refine YU (fun t a=>?_);have a:=XI.1 a;have b:0<v:=Nat.pos_of_ne_zero (fun e=>by rw[e,Zar]at a;omega);exact h _ _ (Nat.div_lt_of_lt_mul (by rw[ZF];exact a)) (Nat.mod_lt _ b)
structure cI(w:World)(g a L K:Nat)(f:Nat->Nat->Nat):Prop where
 Zbx:w.heap[g]?=some (.cells #[int i64 L,int i64 K,slice (some ⟨a,0,none⟩) (L*K) (L*K)] 317)
 arr:ce w a (iH L K f)
 ne:a≠g
section
variable {w w':World} {g a L K:Nat} {f f':Nat->Nat->Nat}
theorem cI.Zbw{S:Xu}(h:cI w g a L K f)(k:aa S w w')(b:g∉S)(c:a∉S):cI w' g a L K f:=⟨k.get h.Zbx b,k.get h.arr c,h.ne⟩
theorem cI.Zbj(h:cI w g a L K f)(k:aa [] w w'):cI w' g a L K f:=h.Zbw k (by simp) (by simp)
theorem cI.ext(h:cI w g a L K f)(e:∀l c,l<L->c<K->f l c=f' l c):cI w g a L K f':=⟨h.Zbx,by rw[<-xB e];exact h.arr,h.ne⟩
theorem cI.lt(h:cI w g a L K f):g<w.heap.size/\a<w.heap.size:=⟨ah h.Zbx,ah h.arr⟩
theorem cI.cells(h:cI w g a L K f):w.cell? ⟨g,0,none⟩=some (int i64 L)/\w.cell? ⟨g,1,none⟩=some (int i64 K)/\w.cell? ⟨g,2,none⟩=some (slice (some ⟨a,0,none⟩) (L*K) (L*K)):=by
 refine⟨?_,?_,?_⟩ <;> (rw[ab h.Zbx];rfl)
theorem cI.cell(h:cI w g a L K f)(c:y<L)(b:v<K):w.cell? ⟨a,y*K+v,none⟩=some (int i64 (f y v)):=by
 rw[ab h.arr];simp[eR,Ar f c b]
theorem cI.set(h:cI w g a L K f)(b:Nat)(d:y<L)(c:v<K):cI (w.setCell ⟨a,y*K+v,none⟩ (int i64 b)) g a L K (nY f y v b):=by
 refine⟨?_,?_,h.ne⟩
 ·rw[XN _ _ _ _ (fun e=>h.ne e.symm)];exact h.Zbx
 ·show _=_;rw[ae h.arr,Yh,<-C0 f b d c];simp[eR,List.map_set]
end
theorem tj(w:H<=1000000)(v:S<=1000) :
  Calls prog 193 #[int i64 H,int i64 S] n fun e r=>∃g a,e=returned (pointer (some ⟨g,0,none⟩))/\cI r g a H S (fun _ _=>0)/\n.heap.size<=g/\n.heap.size<=a/\aa [] n r:=by
 obtain⟨z,j,k,l,m⟩:=XV ru;have x:H*S<=1000000*1000:=YF w v;have t:Xq (iH H S (fun _ _=>0)=List.replicate (H*S) 0):=by
  show _=_;unfold iH;rw[List.map_const'];simp
 obtain⟨b,f⟩:∃b,H*S=b:=⟨_,rfl⟩
 have y:(H:Int)*(S:Int)=(b:Int):=by rw[<-f];simp
 have B:=fun n=>bY (P:=prog) n 25 3 z _ underlying25 j k b 1 l (by rw[m];omega) (by omega);obtain⟨c,d⟩:=aP (madeCells (int i64 0).cells (b*1));have i:Xq (c=(eR (iH H S (fun _ _=>0))).toArray):=cm (by rw[t.o,f,<-d.o,qI]);rw[d.o]at B;rw[f]at x;have s:Xq _:=f;clear f;go_enter func193,ntmps193;go_wp2;go_ret;have A:aa [] n (n.alloc (.cells c 3)):=bH.alloc _;have q:aa [] (n.alloc (.cells c 3)) ((n.alloc (.cells c 3)).alloc (.cells #[int i64 H,int i64 S,slice (some ⟨n.heap.size,0,none⟩) b b] 317)):=bH.alloc _;have u:(n.alloc (.cells c 3)).heap[n.heap.size]?=some (.cells c 3):=XD _ _;have p:=XD (n.alloc (.cells c 3)) (.cells #[int i64 H,int i64 S,slice (some ⟨n.heap.size,0,none⟩) b b] 317);rw[show(n.alloc (.cells c 3)).heap.size=n.heap.size+1 by simp]at p;refine⟨n.heap.size+1,n.heap.size,rfl,⟨by rw[s.o];exact p,?_,by omega⟩,by omega,by omega,A.trans q⟩;show _=_;rw[<-i.o];exact q.get u (by simp)
theorem GP(h:cI n o N x d i)(m:x<=1000000)(c:d<=1000)(r:H<x)(p:S<d) :
  Calls prog 222 #[pointer (some ⟨o,0,none⟩),int i64 H,int i64 S] n fun e j=>e=returned (int i64 (H*d+S:Nat))/\j=n:=by
 obtain⟨k,l,-⟩:=h.cells;have f:=h.lt.1;have a:H*d<=1000000*1000:=YF (by omega) c;obtain⟨q,b⟩:∃q,H*d=q:=⟨_,rfl⟩
 have g:(H:Int)*(d:Int)=(q:Int):=by rw[<-b];simp
 rw[b]at a ⊢;clear h b;go_enter func222,ntmps222;go_wp2;go_ret;exact⟨au (by go_num),rfl⟩
theorem Og(b:M<0) :
  Calls prog 222 #[pointer (some ⟨H,0,none⟩),int i64 M,int i64 S] n fun e a=>e=returned (int i64 (-1))/\a=n:=by
 go_enter func222,ntmps222;go_wp2;go_ret;exact⟨rfl,rfl⟩
theorem CH(h:cI n o N x d i)(j:x<=1000000)(g:d<=1000)(f:H<x)(c:S<d) :
  Calls prog 196 #[pointer (some ⟨o,0,none⟩),int i64 H,int i64 S] n fun e t=>e=returned (int i64 (i H S))/\t=n:=by
 have b:Xq _:=GP o N x d i H S n h j g f c;obtain⟨-,-,u⟩:=h.cells;have w:=h.cell f c;obtain⟨m,k⟩:=h.lt;have p:=pO f c;have l:x*d<=1000000*1000:=YF j g;generalize H*d+S=q at *;generalize x*d=s at *;generalize i H S=v at *;have r:(q:Int)<(s:Int):=by omega
 clear h;go_enter func196,ntmps196;go_wp2_with (go_at_call 222;refine Xx b.o ?_;rintro e y ⟨rfl,a⟩;rw[a];clear a);go_ret;exact⟨rfl,rfl⟩
theorem zai(c:M<0) :
  Calls prog 196 #[pointer (some ⟨H,0,none⟩),int i64 M,int i64 S] n fun e d=>e=returned (int i64 0)/\d=n:=by
 have b:Xq _:=Og H M S n c;go_enter func196,ntmps196;go_wp2_with (go_at_call 222;refine Xx b.o ?_;rintro e f ⟨rfl,a⟩;rw[a];clear a);go_ret;exact⟨rfl,rfl⟩
def yI(v:Nat)(m:Int):Nat:=if 0<m then cp (v+m.toNat) else v
theorem xO(h:cI n o N x d i)(E:x<=1000000)(C:d<=1000)(p:D<x)(m:H<d)(R:i D H<=2)(Y:-2<=M/\M<=4) :
  Calls prog 221 #[pointer (some ⟨o,0,none⟩),int i64 D,int i64 H,int i64 M] n fun e F=>e=returned (bool (decide (0<M) && !(i D H==2)))/\cI F o N x d (nY i D H (yI (i D H) M))/\aa [N] n F:=by
 have c:Xq _:=GP o N x d i D H n h E C p m;obtain⟨V,W,K⟩:=h.cells;have B:=h.cell p m;obtain⟨O,L⟩:=h.lt;have P:=h.ne;have r:=pO p m;have t:x*d<=1000000*1000:=YF E C;have f:Xq (∀v:Nat,cI (n.setCell ⟨N,D*d+H,none⟩ (int i64 v)) o N x d (nY i D H v)):=fun v=>h.set v p m;have g:Xq (∀v u:Nat,cI ((n.setCell ⟨N,D*d+H,none⟩ (int i64 v)).setCell ⟨N,D*d+H,none⟩ (int i64 u)) o N x d (nY i D H u)):=fun v u=>((h.set v p m).set u p m).ext (fun T y _ _=>by unfold nY;split <;> rfl);have b:Xq (i D H=yI (i D H) M->cI n o N x d (nY i D H (yI (i D H) M))):=fun e=>h.ext (fun T y _ _=>by unfold nY;split <;> first | (next q=>rw[q.1,q.2];exact e) | rfl);have w:n.frozen? ⟨N,D*d+H,none⟩=false:=zcW h.arr _;have U:Xq _:=h;obtain⟨v,J⟩:=aP (i D H);rw[J.o]at B R b ⊢;obtain⟨q,I⟩:=aP (D*d+H);rw[I.o]at B r c f g w;obtain⟨S,G⟩:=aP (x*d);rw[G.o]at K r t;have Q:(q:Int)<(S:Int):=by omega
 clear h;by_cases l:0<M
 ·by_cases s:v=2
  ·have z:((v:Int)==2)=true:=(by simp[s]);have j:Xq (v=yI v M):=cm (by unfold yI;rw[XA l,s];unfold cp;rw[XA (by omega)]);have k:Xq ((decide (0<M) && !(v==2))=false):=cm (by simp[s]);go_enter func221,ntmps221;go_wp2_with (go_at_call 222;refine Xx c.o ?_;rintro e A ⟨rfl,a⟩;rw[a];clear a);go_ret;exact⟨aH k.o.symm,b.o j.o,aa.refl _ _⟩
  ·have z:((v:Int)==2)=false:=X6.2 (by omega);have k:Xq ((decide (0<M) && !(v==2))=true):=cm (by simp[s,l]);by_cases X:2<(v:Int)+M
   ·have j:Xq (yI v M=2):=(by show _=_;unfold yI cp;rw[XA l,XA (by omega)]);go_enter func221,ntmps221;go_wp2_with (go_at_call 222;refine Xx c.o ?_;rintro e A ⟨rfl,a⟩;rw[a];clear a);go_ret;refine⟨aH k.o.symm,?_,((aa.refl [N] n).sl1 _).sl1 _⟩;have:=g.o (v+M.toNat) 2;rw[show(((v+M.toNat:Nat)):Int)=(v:Int)+M by omega]at this;rw[j.o];exact this
   ·have j:Xq ((yI v M:Int)=v+M):=(by show _=_;unfold yI cp;rw[XA l,Xz (by omega)];omega);go_enter func221,ntmps221;go_wp2_with (go_at_call 222;refine Xx c.o ?_;rintro e A ⟨rfl,a⟩;rw[a];clear a);go_ret;refine⟨aH k.o.symm,?_,(aa.refl [N] n).sl1 _⟩;have:=f.o (yI v M);rw[j.o]at this;exact this
 ·have j:Xq (v=yI v M):=by show _=_;unfold yI;rw[Xz l]
  have k:Xq ((decide (0<M) && !(v==2))=false):=cm (by simp[l]);go_enter func221,ntmps221;go_wp2_with (go_at_call 222;refine Xx c.o ?_;rintro e A ⟨rfl,a⟩;rw[a];clear a);go_ret;exact⟨aH k.o.symm,b.o j.o,aa.refl _ _⟩
structure oy where
 Zbz:Xr
 code:Nat
 ap:Nat
 np:Nat
 ag:Xt
 gs:Xu
def Xi(p:oy):List Value:=[string p.Zbz,int i64 p.code,slice (some ⟨p.ap,0,none⟩) p.np p.np,slice p.ag p.gs.length p.gs.length]
def zb(p:oy):Value:=agg #[string p.Zbz,int i64 p.code,slice (some ⟨p.ap,0,none⟩) p.np p.np,slice p.ag p.gs.length p.gs.length]
def ptD(vs:Xs)(s:Xr):List Value:=[string s,int i64 (iu (bZ vs s))]
structure p9(w:World)(codes:Xs)(p:oy)(P:dZ):Prop where
 lab:p.Zbz=P.Zbz
 cod:bZ codes P.code=some p.code
 np:p.np=P.body.length
 parts:cW w (some ⟨p.ap,0,none⟩) 2 (ptD P.vars) P.body
 ng:p.gs.length=P.types.length
 len:P.vars.length=P.types.length
 gaps:n8 w p.ag p.gs
 typ:∀v (h:v<p.gs.length),bZ codes (P.types.getD v ⟨#[]⟩)=some p.gs[v]
theorem p9.Zbj{w a:World}{p:oy}{P:dZ}(h:p9 w z p P)(k:aa [] w a):p9 a z p P:=⟨h.lab,h.cod,h.np,h.parts.Zbj k,h.ng,h.len,h.gaps.Zbj k,h.typ⟩
structure xd(w:World)(gm:Nat)(codes:Xs)(Ps:List dZ)(L:List oy)(hc hp:Hd):Prop where
 Zbx:w.heap[gm]?=some (.cells #[slice hc.ao codes.length hc.cap,slice hp.ao L.length hp.cap] 235)
 cod:dB w hc codes
 prd:cW w hp.ao 4 Xi L
 cap:L.length<=hp.cap
 len:L.length=Ps.length
 each:∀(n:Nat) (p:oy) (P:dZ),L[n]?=some p->Ps[n]?=some P->p9 w codes p P
section
variable {w w':World} {gm:Nat} {codes:Xs} {Ps:List dZ} {L:List oy} {hc hp:Hd}
theorem xd.Zbj(h:xd w gm codes Ps L hc hp)(k:aa [] w w'):xd w' gm codes Ps L hc hp:=⟨k.get h.Zbx (by simp),h.cod.Zbj k,h.prd.Zbj k,h.cap,h.len,fun n p P a b=>(h.each n p P a b).Zbj k⟩
theorem xd.cells(h:xd w gm codes Ps L hc hp):w.cell? ⟨gm,0,none⟩=some (slice hc.ao codes.length hc.cap)/\w.cell? ⟨gm,1,none⟩=some (slice hp.ao L.length hp.cap):=by
 refine⟨?_,?_⟩ <;> (rw[ab h.Zbx];rfl)
theorem xd.lt(h:xd w gm codes Ps L hc hp):gm<w.heap.size:=ah h.Zbx
end
theorem xm(L:List oy)(a c:Hd)(w:World)(h:xd w o T A L a c) :
  Calls prog 194 #[pointer (some ⟨o,0,none⟩)] w fun e d=>e=returned (int i64 T.length)/\d=w:=by
 obtain⟨f,-⟩:=h.cells;have b:=h.lt;clear h;go_enter func194,ntmps194;go_wp2;go_ret;exact⟨rfl,rfl⟩
theorem Ge(L:List oy)(a c:Hd)(w:World)(h:xd w o T A L a c) :
  Calls prog 197 #[pointer (some ⟨o,0,none⟩)] w fun e d=>e=returned (int i64 L.length)/\d=w:=by
 obtain⟨-,f⟩:=h.cells;have b:=h.lt;clear h;go_enter func197,ntmps197;go_wp2;go_ret;exact⟨rfl,rfl⟩
theorem CY(j:Hd)(x:Xr)(w:World)(z:w.cell? ⟨o,0,none⟩=some (slice j.ao T.length j.cap))(n:o<w.heap.size)(v:dB w j T)(L:T.length<=1073741824) :
  Calls prog 145 #[pointer (some ⟨o,0,none⟩),string x] w fun e F=>e=returned (int i64 (iu (bZ T x)))/\F=w:=by
 obtain⟨s,c⟩:=aP (j.ao);rw[c.o]at z;go_enter func145,ntmps145;go_wp2
 go_loopg [5] T.length (fun g i wr=>∃k:Nat,k<=T.length/\g=T.length-k/\i=int i64 k/\Xq (∀i,i<k->((T.getD i ⟨#[]⟩).toList==x.toList)=false)/\wr=w)
 ·exact⟨0,by omega,by omega,rfl,fun i r=>by omega,rfl⟩
 obtain⟨k,K,J,rfl,a,rfl⟩:=hrel;by_cases b:k<T.length
 ·rcases v with C | ⟨g,d,A,t,B,m,p,H,I⟩
  ·rw[C]at b;simp at b
  ·have G:wr.cell? ⟨g,d+k,none⟩=some (string T[k]):=(by rw[ab m];exact p k T[k] (Xv b));obtain rfl:s=some ⟨g,d,none⟩:=c.o.symm.trans B;have f:Xq _:=fO T k b;have n:=ah m;have D:(k:Int)<T.length:=(by omega);generalize T[k]=y at *;clear m p;cases q:(y.toList==x.toList)
   ·have u:Xq (∀i,i<k+1->((T.getD i ⟨#[]⟩).toList==x.toList)=false):=by
     intro i r;by_cases e:i=k
     ·subst e;rw[f.o];exact q
     ·exact a.o i (by omega)
    clear f;go_wp2;go_roundg (T.length-(k+1))
    ·exact⟨k+1,by omega,rfl,by go_num,u,rfl⟩
    omega
   ·have l:Xq (bZ T x=some k):=jP b (by rw[f.o];exact q) a.o;clear f;go_wp2;go_ret;exact⟨au (by rw[l.o];rfl),rfl⟩
 ·have l:Xq (bZ T x=none):=jz (fun i r=>a.o i (by omega));have E:¬(k:Int)<T.length:=by omega
  go_wp2;go_ret;exact⟨au (by rw[l.o];rfl),rfl⟩
theorem tA(L:List oy)(f q:Hd)(n:Nat)(l:n<L.length)(w:World)(h:xd w o T A L f q) :
  Calls prog 198 #[pointer (some ⟨o,0,none⟩),int i64 n] w fun e r=>e=returned (zb L[n])/\aa [] w r:=by
 obtain⟨-,b⟩:=h.cells;have k:=h.lt;have i:=h.cap;obtain⟨g,d,j,a⟩:=h.prd n L[n] (Xv l);have c:=a 0 _ rfl;have s:=a 1 _ rfl;have t:=a 2 _ rfl;have u:=a 3 _ rfl;rw[YM]at c;rw[d]at b;have m:(n:Int)<L.length:=by omega
 unfold zb;generalize L[n]=p at *;clear h a;go_enter func198,ntmps198;go_wp2;exact XG (v:=agg #[string p.Zbz,int i64 p.code,slice (some ⟨p.ap,0,none⟩) p.np p.np,slice p.ag p.gs.length p.gs.length]) (by simp[results,results198,go_sem]) rfl ⟨rfl,(aa.refl _ _).alloc _⟩
def yx(S:Nat)(G:Nat->Nat->Nat->Nat):Nat->Nat->Nat:=fun l e=>G (l / S) (l % S) e
structure go(w:World)(c gm:Nat)(hs:Hd)(tx:Xs)(cg ca nc:Nat)(G:Nat->Nat->Nat->Nat):Prop where
 Zbx:w.heap[c]?=some (.cells #[pointer (some ⟨gm,0,none⟩),slice hs.ao tx.length hs.cap,int i64 (tx.length+1:Nat),pointer (some ⟨cg,0,none⟩)] 295)
 cnt:cI w cg ca (nc*(tx.length+1)) (tx.length+1) (yx (tx.length+1) G)
section
variable {w w':World} {c gm cg ca nc:Nat} {hs:Hd} {tx:Xs} {G:Nat->Nat->Nat->Nat}
theorem go.Zbj(h:go w c gm hs tx cg ca nc G)(k:aa [] w w'):go w' c gm hs tx cg ca nc G:=⟨k.get h.Zbx (by simp),h.cnt.Zbj k⟩
theorem go.cells(h:go w c gm hs tx cg ca nc G):w.cell? ⟨c,0,none⟩=some (pointer (some ⟨gm,0,none⟩))/\w.cell? ⟨c,1,none⟩=some (slice hs.ao tx.length hs.cap)/\w.cell? ⟨c,2,none⟩=some (int i64 (tx.length+1:Nat))/\w.cell? ⟨c,3,none⟩=some (pointer (some ⟨cg,0,none⟩)):=by
 refine⟨?_,?_,?_,?_⟩ <;> (rw[ab h.Zbx];rfl)
theorem go.lt(h:go w c gm hs tx cg ca nc G):c<w.heap.size:=ah h.Zbx
end
set_option maxRecDepth 100000
theorem sM(h:go n u q p l o N x I)(A:x*(l.length+1)<=1000000)(P:l.length<=100)(G:D<x)(g:H<l.length+1)(z:S<l.length+1) :
  Calls prog 146 #[pointer (some ⟨u,0,none⟩),int i64 D,agg #[int i64 H,int i64 S]] n fun m w=>m=returned (int i64 (I D H S))/\aa [] n w:=by
 obtain⟨W,k⟩:=aP (n.alloc (.cells #[int i64 H,int i64 S] 242));have v:=dx k.o;have i:=dC k.o;obtain⟨L,M⟩:=uY i;have t:=ah i;have f:=h.Zbj v;obtain⟨-,-,B,O⟩:=f.cells;have F:=f.lt;have r:D*(l.length+1)+H<x*(l.length+1):=pO G g;have a:Xq (∀e,aa [] W e->Calls prog 196 #[pointer (some ⟨o,0,none⟩),int i64 (D*(l.length+1)+H:Nat),int i64 S] e fun m w=>m=returned (int i64 (I D H S))/\w=e):=fun e b=>by
  have:=CH o N (x*(l.length+1)) (l.length+1) (yx (l.length+1) I) (D*(l.length+1)+H) S e (f.cnt.Zbj b) A (by omega) r z;rw[show yx (l.length+1) I (D*(l.length+1)+H) S=I D H S by unfold yx;rw[sQ g,sR g]]at this;exact this
 have j:Xq _:=v;obtain⟨d,y⟩:∃d,l.length+1=d:=⟨_,rfl⟩
 rw[y]at B g z r a;obtain⟨b,s⟩:∃b,D*d=b:=⟨_,rfl⟩
 have J:(D:Int)*(d:Int)=(b:Int):=by rw[<-s];simp
 rw[s]at r a;simp only[Int.natCast_add]at a;have K:b<=1000000:=by rw[y]at A;omega
 obtain⟨Q,c⟩:=aP (n.heap.size);rw[c.o]at L M t;have E:(H:Int)<(d:Int):=by omega
 have C:decide ((H:Int)<0)=false:=YB (by omega);clear h f i v s;go_enter func146,ntmps146;go_upto_region 1 with fail
 rw[k.o,c.o];go_quiet (fail);go_upto_region 3 with fail
 go_quiet ((go_at_call 196;exact E3 (a.o _ (bH.drewN _))));go_wp2;go_ret;exact⟨rfl,(j.o.drewN _).drewN _⟩
theorem uC{c:Xr}(h:bZ z c=some y)(i j:Nat):CG z z0 c i j=z0 y i j:=by unfold CG;rw[h]
theorem Gx(a:oy)(P:dZ)(k i j:Nat)(w:World)(h:go w u q p l N x T.length I)(D:p9 w T a P)(V:dB w p l)(hn:T.length*(l.length+1)<=1000000)(ht:l.length<=100)(hk:k<P.body.length)(ai:P.body.length<=1000000)(hi:i<l.length+1)(hj:j<l.length+1) :
  Calls prog 223 #[pointer (some ⟨u,0,none⟩),zb a,int i64 k,agg #[int i64 i,int i64 j]] w fun e K=>e=returned (int i64 (bX l (CG T I) P P.body[k] i j))/\aa [] w K:=by
 obtain⟨W,H⟩:=aP ((w.alloc (.cells #[string a.Zbz,int i64 a.code,slice (some ⟨a.ap,0,none⟩) a.np a.np,slice a.ag a.gs.length a.gs.length] 289)).alloc (.cells #[int i64 i,int i64 j] 242));have X:aa [] w (w.alloc (.cells #[string a.Zbz,int i64 a.code,slice (some ⟨a.ap,0,none⟩) a.np a.np,slice a.ag a.gs.length a.gs.length] 289)):=bH.alloc _;have G:aa [] w W:=by rw[<-H.o];exact X.alloc _
 have L:W.heap[w.heap.size]?=some (.cells #[string a.Zbz,int i64 a.code,slice (some ⟨a.ap,0,none⟩) a.np a.np,slice a.ag a.gs.length a.gs.length] 289):=by
  rw[<-H.o];exact(bH.alloc _).get (XD w _) (by simp)
 have M:W.heap[w.heap.size+1]?=some (.cells #[int i64 i,int i64 j] 242):=by
  rw[<-H.o];have:=XD (w.alloc (.cells #[string a.Zbz,int i64 a.code,slice (some ⟨a.ap,0,none⟩) a.np a.np,slice a.ag a.gs.length a.gs.length] 289)) (.cells #[int i64 i,int i64 j] 242);rw[show(w.alloc (.cells #[string a.Zbz,int i64 a.code,slice (some ⟨a.ap,0,none⟩) a.np a.np,slice a.ag a.gs.length a.gs.length] 289)).heap.size=w.heap.size+1 by simp]at this;exact this
 have J:=h.Zbj G;have m:=D.Zbj G;obtain⟨g,e1,aS,d⟩:=m.parts k P.body[k] (Xv hk);cases e1
 have d0:=d 0 _ rfl;have U:=d 1 _ rfl;rw[YM]at d0;have f:=D.np;obtain⟨-,-,p2,p3⟩:=zU L;obtain⟨s0,s1⟩:=uY M;have ac:=ah L;have Q:=ah M;obtain⟨-,c1,-,-⟩:=J.cells;have ax:=J.lt;have b:Xq _:=G;obtain⟨sb,r⟩:=aP (w.heap.size+1);rw[r.o]at s0 s1 Q;obtain⟨pb,n⟩:=aP (w.heap.size);rw[n.o]at p2 p3 ac;have a6:(k:Int)<(a.np:Int):=by rw[f];omega
 have a7:a.np<=1000000:=by rw[f];exact ai
 unfold zb;cases E:bZ P.vars P.body[k] with
 | some v =>
  have an:v<P.vars.length:=XI.1 (XS E);have ad:v<a.gs.length:=by rw[D.ng,<-D.len];exact an
  have R:=D.typ v ad;have C:Xq (bX l (CG T I) P P.body[k] i j=I a.gs[v] i j):=cm (by rw[qB E,uC R]);have am:a.gs[v]<T.length:=XI.1 (XS R);obtain⟨gg,e2,Y,al⟩:=m.gaps v a.gs[v] (Xv ad);have af:Xq (∀A,aa [] W A->Calls prog 146 #[pointer (some ⟨u,0,none⟩),int i64 a.gs[v],agg #[int i64 i,int i64 j]] A fun e' K=>e'=returned (int i64 (I a.gs[v] i j))/\aa [] A K):=fun A F=>sM u q p l N x T.length I a.gs[v] i j A (J.Zbj F) hn ht am hi hj;rw[C.o];rw[e2]at p3;clear e2;rw[E]at U;replace U:W.cell? ⟨a.ap,k*2+1,none⟩=some (int i64 (v:Int)):=U;generalize a.gs[v]=kc at *;have ba:(v:Int)<(a.gs.length:Int):=by omega
  generalize I kc i j=bc at *;have HC:Xq (∀A,aa [] W A->A.cell? ⟨pb,3,none⟩=some (slice (some ⟨gg,0,none⟩) a.gs.length a.gs.length)/\A.cell? ⟨gg,v,none⟩=some (int i64 kc)/\A.cell? ⟨sb,0,none⟩=some (int i64 i)/\A.cell? ⟨sb,1,none⟩=some (int i64 j)):=fun A F=>by
   refine⟨?_,?_,?_,?_⟩
   ·rw[XJ (F.block _ ac (by simp))];exact p3
   ·rw[XJ (F.block _ Y (by simp))];exact al
   ·rw[XJ (F.block _ Q (by simp))];exact s0
   ·rw[XJ (F.block _ Q (by simp))];exact s1
  clear h D J m d L M G X f C E R V;go_enter func223,ntmps223;go_upto_region 1 with fail
  rw[H.o,r.o,n.o];go_upto_region 5 with fail
  go_region_held3 (fun K=>K.cell? ⟨pb,3,none⟩=some (slice (some ⟨gg,0,none⟩) a.gs.length a.gs.length)/\K.cell? ⟨gg,v,none⟩=some (int i64 kc)/\K.cell? ⟨sb,0,none⟩=some (int i64 i)/\K.cell? ⟨sb,1,none⟩=some (int i64 j)) (go_keep) ((go_at_call 146;refine Xx (af.o _ (by exact(aa.refl [] W).drew)) ?_;rintro e3 w3 ⟨rfl,k3⟩;obtain⟨x0,x1,x2,x3⟩:=HC.o w3 ((aa.refl [] W).drew.trans k3)));go_wp2;go_ret;exact⟨rfl,b.o.trans ((aa.refl [] W).drew.trans k3)⟩
 | none =>
  rw[E]at U;replace U:W.cell? ⟨a.ap,k*2+1,none⟩=some (int i64 (-1)):=U;have c:bX l (CG T I) P P.body[k] i j=if j=i+1/\i<l.length/\((l.getD i ⟨#[]⟩).toList==P.body[k].toList)=true then 1 else 0:=by unfold bX;rw[E]
  have aT:decide ((i:Int)<0)=false:=YB (by omega);have S:=V.Zbj G;generalize P.body[k]=y at *;by_cases s:i<l.length
  ·have aq:decide (l.length<=i)=false:=YB (by omega);by_cases B:j=i+1
   ·rcases S with h0 | ⟨gt,ao,av,t,a1,a2,a3,a4,a5⟩
    ·rw[h0]at s;simp at s
    ·have t0:W.cell? ⟨gt,ao+i,none⟩=some (string l[i]):=(by rw[ab a2];exact a3 i l[i] (Xv s));have az:=ah a2;rw[a1]at c1;have O:l.getD i ⟨#[]⟩=l[i]:=kK l i s;rw[O]at c;have a0:(i:Int)<l.length:=(by omega);have Z:((j:Int) != (i:Int)+1)=false:=(by rw[B];simp);generalize l[i]=z at *;cases hb:(z.toList==y.toList)
     ·have C:Xq (bX l (CG T I) P y i j=0):=(by show _=_;rw[c,hb];simp);rw[C.o];clear h D J m d L M G X f c E V O a1 a2 a3 a4 a5 B;go_enter func223,ntmps223;(go_upto_region 1 with fail);rw[H.o,r.o,n.o];(go_upto_region 6 with fail);go_quiet (fail);(go_upto_region 8 with fail);go_quiet (fail);go_wp2;go_ret;exact⟨rfl,by first | exact b.o.drewN _ | exact(b.o.drewN _).drewN _⟩
     ·have C:Xq (bX l (CG T I) P y i j=1):=(by show _=_;rw[c,hb];simp[s,B]);rw[C.o];clear h D J m d L M G X f c E V O a1 a2 a3 a4 a5 B;go_enter func223,ntmps223;(go_upto_region 1 with fail);rw[H.o,r.o,n.o];(go_upto_region 6 with fail);go_quiet (fail);(go_upto_region 8 with fail);go_quiet (fail);go_wp2;go_ret;exact⟨rfl,by first | exact b.o.drewN _ | exact(b.o.drewN _).drewN _⟩
   ·have Z:(((j:Nat):Int) != (i:Int)+1)=true:=(by simp;omega);have C:Xq (bX l (CG T I) P y i j=0):=cm (by rw[c,Xz (fun F=>B F.1)]);rw[C.o];clear h D J m d L M G X f c E V S;go_enter func223,ntmps223;(go_upto_region 1 with fail);rw[H.o,r.o,n.o];(go_upto_region 6 with fail);go_quiet (fail);go_wp2;go_ret;exact⟨rfl,by first | exact b.o.drewN _ | exact(b.o.drewN _).drewN _⟩
  ·have ar:(l.length:Int)<=(i:Int):=(by omega);have C:Xq (bX l (CG T I) P y i j=0):=cm (by rw[c,Xz (fun F=>s F.2.1)]);rw[C.o];clear h D J m d L M G X f c E V S;go_enter func223,ntmps223;(go_upto_region 1 with fail);rw[H.o,r.o,n.o];(go_upto_region 6 with fail);go_quiet (fail);go_wp2;go_ret;exact⟨rfl,by first | exact b.o.drewN _ | exact(b.o.drewN _).drewN _⟩
theorem Jr(h:∀k i j,z0 k i j<=2)(c:Xr)(i j:Nat):CG z z0 c i j<=2:=by
 unfold CG;split
 ·exact h _ _ _
 ·omega
def BU(tx:Xs)(C:pB)(P:dZ)(b k m:Nat):Nat->Nat->Nat:=fun r e =>
 if r<=k then cp (wy (tx.length+1) (bX tx C P) (P.body.take r) b e) else if r=k+1 then J1 tx C P b k m e else 0
def Fy(tx:Xs)(C:pB)(P:dZ)(b k m E:Nat):Nat->Nat->Nat:=fun r e =>
 if r<=k then cp (wy (tx.length+1) (bX tx C P) (P.body.take r) b e) else if r=k+1 then(if e<E then J1 tx C P b k (m+1) e else J1 tx C P b k m e) else 0
def Fq(tx:Xs)(C:pB)(P:dZ)(b:Nat):Nat->Nat->Nat:=fun r e=>cp (wy (tx.length+1) (bX tx C P) (P.body.take r) b e)
section
variable {tx:Xs} {C:pB} {P:dZ} {b k m E r e:Nat}
theorem J2:J1 tx C P b k m e<=2:=oY _
theorem WL:Fy tx C P b k m E r e<=2:=by unfold Fy;split;exact oY _;split;(split <;> exact J2);omega
theorem Uq(t:l4 C):Fy tx C P b k m (b+m) r e=BU tx C P b k m r e:=by
 unfold Fy BU;split
 ·rfl
 ·split
  ·split
   ·next h=>exact Vl t b k m e h
   ·rfl
  ·rfl
theorem zbr(a:e<E):Fy tx C P b k m E r e=BU tx C P b k (m+1) r e:=by
 unfold Fy BU;rw[XA a]
theorem WM(c:cp (wy (tx.length+1) (bX tx C P) (P.body.take k) b (b+m))=0):BU tx C P b k m r e=BU tx C P b k (m+1) r e:=by
 unfold BU;have a:J1 tx C P b k (m+1) e=J1 tx C P b k m e:=by rw[Ep,c,Zn,YM,pL J2]
 rw[a]
theorem zbs(t:l4 C)(g:k<P.body.length)(d:b<tx.length+1)(f:e<tx.length+1):BU tx C P b k (tx.length+1-b) r e=BU tx C P b (k+1) 0 r e:=by
 unfold BU;by_cases c:r<=k
 ·rw[XA c,XA (by omega)]
 ·rw[Xz c];by_cases a:r=k+1
  ·rw[XA a,XA (by omega),Vk t b k e g d f,a]
  ·rw[Xz a,Xz (by omega)];split
   ·rfl
   ·rfl
theorem Uo:BU tx C P b 0 0 r e=nY (fun _ _=>0) 0 b 1 r e:=by
 unfold BU nY;by_cases a:r=0
 ·subst a;rw[XA (Xy _)];show cp (if b=e then 1 else 0)=_;by_cases h:b=e
  ·rw[XA h,XA ⟨rfl,h.symm⟩];rfl
  ·rw[Xz h,Xz (fun q=>h q.2.symm)];rfl
 ·rw[Xz (by omega),Xz (fun q:r=0/\e=b=>a q.1)];split <;> rfl
theorem Up(i:S=cp (wy (tx.length+1) (bX tx C P) (P.body.take k) b (b+m))*bX tx C P (P.body.getD k ⟨#[]⟩) (b+m) E):nY (Fy tx C P b k m E) (k+1) E (yI (Fy tx C P b k m E (k+1) E) S) r e=Fy tx C P b k m (E+1) r e:=by
 have f:Fy tx C P b k m E (k+1) E=J1 tx C P b k m E:=by unfold Fy;rw[Xz (by omega),XA rfl,Xz (by omega)]
 have g:yI (J1 tx C P b k m E) S=J1 tx C P b k (m+1) E:=by
  unfold yI;rw[Ep,<-i];split
  ·rw[YO]
  ·next h=>rw[show S=0 by omega,YM,pL J2]
 rw[f,g];unfold nY;by_cases h:r=k+1/\e=E
 ·rw[XA h];unfold Fy;rw[Xz (by omega),XA h.1,XA (by omega),h.2]
 ·rw[Xz h];unfold Fy;by_cases c:r<=k
  ·rw[XA c,XA c]
  ·rw[Xz c,Xz c];by_cases a:r=k+1
   ·rw[XA a,XA a];have j:e≠E:=fun q=>h ⟨a,q⟩;by_cases d:e<E
    ·rw[XA d,XA (by omega)]
    ·rw[Xz d,Xz (by omega)]
   ·rw[Xz a,Xz a]
end
theorem Jg(d:oy)(P:dZ)(b:Nat)(w:World)(h:go w u q p l N x T.length I)(hp:p9 w T d P)(hv:dB w p l)(hn:T.length*(l.length+1)<=1000000)(ht:l.length<=100)(be:P.body.length<=100000)(hb:b<l.length+1)(J:∀k i j,I k i j<=2)(a3:l4 (CG T I)) :
  Calls prog 199 #[pointer (some ⟨u,0,none⟩),zb d,int i64 b] w fun e L=>∃g a,e=returned (pointer (some ⟨g,0,none⟩))/\cI L g a (P.body.length+1) (l.length+1) (Fq l (CG T I) P b)/\w.heap.size<=g/\w.heap.size<=a/\aa [] w L:=by
 obtain⟨W,HW⟩:=aP (w.alloc (.cells #[string d.Zbz,int i64 d.code,slice (some ⟨d.ap,0,none⟩) d.np d.np,slice d.ag d.gs.length d.gs.length] 289));have kW:=dx HW.o;have BP:W.heap[w.heap.size]?=some (.cells #[string d.Zbz,int i64 d.code,slice (some ⟨d.ap,0,none⟩) d.np d.np,slice d.ag d.gs.length d.gs.length] 289):=by
  rw[<-HW.o];exact XD _ _
 have O:=h.Zbj kW;have G:Xq (∀(k:Nat) (_:k<P.body.length) (i j:Nat) (c:World),i<l.length+1->j<l.length+1->aa [] W c->Calls prog 223 #[pointer (some ⟨u,0,none⟩),agg #[string d.Zbz,int i64 d.code,slice (some ⟨d.ap,0,none⟩) d.np d.np,slice d.ag d.gs.length d.gs.length],int i64 k,agg #[int i64 i,int i64 j]] c fun e L=>e=returned (int i64 (bX l (CG T I) P (P.body.getD k ⟨#[]⟩) i j))/\aa [] c L) :=
  fun k R i j c hi hj U=>by rw[kK _ _ R];exact Gx u q p l T N x I d P k i j c (O.Zbj U) ((hp.Zbj kW).Zbj U) ((hv.Zbj kW).Zbj U) hn ht R (by omega) hi hj
 have t:Xq (∀c,aa [] W c->(c.cell? ⟨w.heap.size,0,none⟩=some (string d.Zbz)/\c.cell? ⟨w.heap.size,1,none⟩=some (int i64 d.code)/\c.cell? ⟨w.heap.size,2,none⟩=some (slice (some ⟨d.ap,0,none⟩) d.np d.np)/\c.cell? ⟨w.heap.size,3,none⟩=some (slice d.ag d.gs.length d.gs.length))/\c.cell? ⟨u,2,none⟩=some (int i64 (l.length+1:Nat))/\w.heap.size<c.heap.size/\u<c.heap.size):=fun c U=>by
  have B2:=U.get BP (by simp);refine⟨⟨?_,?_,?_,?_⟩,(O.Zbj U).cells.2.2.1,ah B2,(O.Zbj U).lt⟩ <;> (rw[ab B2];rfl)
 have HT:Xq _:=a3;have am:Xq (∀s i j,bX l (CG T I) P s i j<=2):=fun s i j=>Ro (Jr J) s i j;have af:=hp.np;have V:Xq _:=kW;obtain⟨pb,ax⟩:=aP (w.heap.size);rw[ax.o]at t;obtain⟨⟨-,-,p2,-⟩,c2,a1,Q⟩:=t.o W (aa.refl _ _);obtain⟨n,HN⟩:=aP (P.body.length);rw[HN.o]at af be G ⊢;obtain⟨C,HC⟩:=aP (CG T I);rw[HC.o]at G HT am ⊢;have av:Xq _:=tj (n+1) (l.length+1);obtain⟨S,HS⟩:=aP (l.length+1);rw[HS.o]at hb G t c2 av;have hS:S<=101:=by rw[<-HS.o];omega
 unfold zb;rw[af]at p2 HW G t ⊢;clear h J hp hv a3 O BP kW hn ht af;go_enter func199,ntmps199;go_upto_region 1 with fail
 rw[HW.o,ax.o];go_upto_region 3 with (go_at_call 193;refine Xx (av.o W (by omega) (by omega)) ?_;rintro e w1 ⟨g,a,rfl,a0,lg,la,k1⟩)
 have aS:Xq (∀(f:Nat->Nat->Nat) (D e:Nat) (m:Int) (c:World),cI c g a (n+1) S f->aa [] W c->D<n+1->e<S->f D e<=2->-2<=m/\m<=4->Calls prog 221 #[pointer (some ⟨g,0,none⟩),int i64 D,int i64 e,int i64 m] c fun e' L=>(∃r,e'=returned (bool r))/\cI L g a (n+1) S (nY f D e (yI (f D e) m))/\aa [] W L):=fun f D e m c h1 J h3 h4 h5 h6=>by
  refine(xO g a (n+1) S f D e m c h1 (by omega) (by omega) h3 h4 h5 h6).mono ?_;rintro e' L ⟨he,hg,R⟩;exact⟨⟨_,he⟩,hg,⟨R.os.trans J.os,R.tape.trans J.tape,R.output.trans J.output,XF J.size R.size,fun i hi _=>(R.block i (XB hi J.size) (by simp;omega)).trans (J.block i hi (by simp))⟩⟩
 have a4:Xq (∀(f:Nat->Nat->Nat) (D e:Nat) (c:World),cI c g a (n+1) S f->D<n+1->e<S->Calls prog 196 #[pointer (some ⟨g,0,none⟩),int i64 D,int i64 e] c fun e' L=>e'=returned (int i64 (f D e))/\L=c):=fun f D e c h1 J h3=>CH g a (n+1) S f D e c h1 (by omega) (by omega) J h3;have az:Xq _:=(aS.o (fun _ _=>0) 0 b 1 w1 a0 k1 (by omega) hb (by omega) (by omega));have ar:Xq _:=(⟨lg,la⟩:W.heap.size<=g/\W.heap.size<=a);clear a0 lg la k1 c2 p2 a1 Q;go_upto_region 4 with (go_at_call 221;refine Xx az.o ?_;rintro e2 w2 ⟨⟨r2,rfl⟩,ac,k2⟩)
 have a5:Xq (cI w2 g a (n+1) S (BU l C P b 0 0)):=ac.ext (fun r e _ _=>by rw[Uo];rfl);have a6:Xq _:=k2;clear ac k2 az;go_wp2
 go_loopg [9] n (fun gk kv wr=>∃k:Nat,k<=n/\gk=n-k/\kv=int i64 k/\Xq (cI wr g a (n+1) S (BU l C P b k 0))/\Xq (aa [] W wr))
 ·exact⟨0,by omega,by omega,rfl,a5,a6⟩
 obtain⟨k,R,bT,rfl,ao,aq⟩:=hrel;rcases kn k n with ⟨ad,b0⟩ | ⟨ad,b1⟩
 ·have bj:k<P.body.length:=by rw[HN.o];exact ad
  go_wp2
  go_loopg [10] (S-b) (fun g2 fv wf=>∃f m:Nat,b+m=f/\f<=S/\g2=S-f/\fv=int i64 f/\Xq (cI wf g a (n+1) S (BU l C P b k m))/\Xq (aa [] W wf))
  ·exact⟨b,0,rfl,by omega,rfl,rfl,ao,aq⟩
  obtain⟨f,m,hf,bw,ac,rfl,B,M⟩:=hrel;obtain⟨-,c2,-,Q⟩:=t.o _ M.o;rcases kn f S with ⟨Z,bx⟩ | ⟨Z,bz⟩
  ·have HA:Xq _:=a4.o _ k f _ B.o (by omega) Z;have HV:Xq (BU l C P b k m k f=cp (wy (l.length+1) (bX l C P) (P.body.take k) b f)):=cm (by unfold BU;rw[XA (Xy _)]);have a2:cp (wy (l.length+1) (bX l C P) (P.body.take k) b f)<=2:=oY _;rw[HV.o]at HA;obtain⟨v,X⟩:=aP (cp (wy (l.length+1) (bX l C P) (P.body.take k) b f));rw[X.o]at HA a2;by_cases bk:v=0
   ·subst bk;have ba:Xq (cI _ g a (n+1) S (BU l C P b k (m+1))):=B.o.ext (fun r e _ _=>WM (by rw[hf];exact X.o));clear HV B;(go_upto_region 11 with (go_at_call 196;refine Xx HA.o ?_;rintro e3 w3 ⟨rfl,K⟩;rw[K];clear K));go_wp2
    go_loopg [12] 0 (fun g3 ev c=>g3=0/\ev=int i64 f/\Xq (cI c g a (n+1) S (BU l C P b k (m+1)))/\Xq (aa [] W c))
    ·exact⟨rfl,rfl,ba,M⟩
    obtain⟨bf,rfl,H,y⟩:=hrel;obtain⟨-,c2,-,Q⟩:=t.o _ y.o;go_wp2;go_roundg (S-(f+1))
    ·exact⟨f+1,m+1,by omega,by omega,rfl,by go_num,H,y⟩
    omega
   ·have bo:(v:Int) > 0:=(by omega);have bd:Xq (cI _ g a (n+1) S (Fy l C P b k m f)):=B.o.ext (fun r e _ _=>by rw[<-hf];exact(Uq HT.o).symm);clear HV B;(go_upto_region 11 with (go_at_call 196;refine Xx HA.o ?_;rintro e3 w3 ⟨rfl,K⟩;rw[K];clear K));go_wp2
    go_loopg [12] (S-f) (fun g3 ev c=>∃E:Nat,f<=E/\E<=S/\g3=S-E/\ev=int i64 E/\Xq (cI c g a (n+1) S (Fy l C P b k m E))/\Xq (aa [] W c))
    ·exact⟨f,by omega,by omega,rfl,rfl,bd,M⟩
    obtain⟨E,bv,bq,bf,rfl,H,y⟩:=hrel;obtain⟨⟨q0,q1,q2,q3⟩,c2,a1,Q⟩:=t.o _ y.o;rcases kn E S with ⟨hE,br⟩ | ⟨hE,bs⟩
    ·have HF:Xq _:=G.o k ad f E _ Z hE y.o;have aT:=am.o (P.body.getD k ⟨#[]⟩) f E;obtain⟨F,ai⟩:=aP (bX l C P (P.body.getD k ⟨#[]⟩) f E);rw[ai.o]at HF aT;have bl:v*F<=2*2:=YF a2 aT;obtain⟨z,hz⟩:∃z,v*F=z:=⟨_,rfl⟩
     have b2:(v:Int)*(F:Int)=(z:Int):=(by rw[<-hz];simp);have al:Xq (z=cp (wy (l.length+1) (bX l C P) (P.body.take k) b f)*bX l C P (P.body.getD k ⟨#[]⟩) f E):=cm (by rw[X.o,ai.o];exact hz.symm);rw[hz]at bl;have an:Xq _:=H.o;clear hz HA;(go_upto_region 15 with (go_at_call 223;refine Xx HF.o ?_;rintro e4 w4 ⟨rfl,k4⟩));have Y:=y.o.trans k4;have bc:Xq _:=(aS.o _ (k+1) E z w4 (an.o.Zbj k4) Y (by omega) hE WL (by omega));have a7:Xq (∀c,cI c g a (n+1) S (nY (Fy l C P b k m E) (k+1) E (yI (Fy l C P b k m E (k+1) E) z))->cI c g a (n+1) S (Fy l C P b k m (E+1))):=fun c U=>U.ext (fun r e _ _=>Up z (by rw[hf];exact al.o));obtain⟨-,bp,-,bm⟩:=t.o _ Y;clear Y k4 HF al an H;go_wp2_with (go_at_call 221;refine Xx bc.o ?_;rintro e5 w5 ⟨⟨r5,rfl⟩,bg,k5⟩);go_roundg (S-(E+1))
     ·exact⟨E+1,by omega,by omega,rfl,by go_num,a7.o _ bg,k5⟩
     omega
    ·have A:Xq (cI _ g a (n+1) S (BU l C P b k (m+1))):=H.o.ext (fun r e _ he=>zbr (by omega));clear HA;go_wp2;go_roundg (S-(f+1))
     ·exact⟨f+1,m+1,by omega,by omega,rfl,by go_num,A,y⟩
     omega
  ·have A:Xq (cI _ g a (n+1) S (BU l C P b (k+1) 0)):=B.o.ext (fun r e _ he=>by
    have:=zbs (r:=r) (e:=e) HT.o bj (by rw[HS.o];exact hb) (by rw[HS.o];exact he);rw[HS.o,show S-b=m by omega]at this;exact this)
   go_wp2;go_roundg (n-(k+1))
   ·exact⟨k+1,by omega,rfl,by go_num,A,M⟩
   omega
 ·have A:Xq (cI _ g a (n+1) S (Fq l C P b)):=ao.o.ext (fun r e hr _=>by unfold BU Fq;rw[XA (by omega)]);go_wp2;go_ret;rw[<-HS.o]at A;exact⟨g,rfl,a,A.o,by have:=ar.o;have:=V.o.size;omega,by have:=ar.o;have:=V.o.size;omega,V.o.trans aq.o⟩
end Go.Proofs.YtpdholcaobgofaaGreat
