import Derived.Deep.RegionLaw
import Derived.BigQuiet
import Derived.Deep.RegionHeld3
import Derived.Test.YtnbhnocdhbcbcaaGreatU03
namespace Go.Proofs.YtnbhnocdhbcbcaaGreat
open Go.RowKit Tryz
open Value IntKind Ending
set_option maxHeartbeats 0
variable{D g z0:Nat}{yr:Nat->Bool}{a z6:World}{z7:Hd}{zt:Xt}{z4 y9:List Value}{l:Db}{S yd:Nat->Hd}(n:Nat)(v:List St)(i:Nat)(yg:World)(N:Hd)(M:Xt)(H:Nat)(d o:List Value)(w:Db)(yf:St)(b:Nat->Hd)(x:Xs)(k:Int)(L:List (Nat×Nat))(z3:Nat×Nat)(I:Xv)(y:Nat)(f:World)(z5:Nat->Hd)(ya:List (Xs×Pl))(T:Nat)
def ki(n:Int):Bool:=(decide (97<=n)&&decide (n<=122))||(decide (65<=n)&&decide (n<=90))||(decide (48<=n)&&decide (n<=57))||n==45||n==95||n==46
def iB(s:Xs):Bool:=(List.range s.size).all (fun i=>ki (aH s i))
theorem qr :
  Calls prog 276 #[int u8 k] f fun e i=>e=returned (bool (ki k))/\i=f:=by
 by_cases b:(97<=k/\k<=122)∨(65<=k/\k<=90)∨(48<=k/\k<=57)
 ·have a:Xr (ki k=true):=by show ki k=true;simp only[ki,Bool.or_eq_true,Bool.and_eq_true,decide_eq_true_eq];omega
  rcases b with b | b | b
  all_goals
   go_enter func276,ntmps276;go_wp2;go_ret;exact⟨aE a.o.symm,rfl⟩
 ·have a:Xr (ki k=(k==45||k==95||k==46)):=by
   show ki k=_;have c:(decide (97<=k)&&decide (k<=122))=false:=(by simp;omega);have d:(decide (65<=k)&&decide (k<=90))=false:=(by simp;omega);have g:(decide (48<=k)&&decide (k<=57))=false:=(by simp;omega);simp only[ki,c,d,g,Bool.false_or]
  go_enter func276,ntmps276;go_wp2
  all_goals go_ret
  all_goals (refine⟨aE ?_,rfl⟩;first | rfl | (rw[a.o];done) | (rw[a.o];simp[*];done))
theorem Fp(h:T<D)(a:yr T=false):(List.range D).all yr=false:=by
 rw[WZ];exact⟨T,by simpa using h,by simp[a]⟩
theorem Bj(h:∀i,i<D->yr i=true):(List.range D).all yr=true:=by
 rw[U5];intro i a;exact h i (by simpa using a)
theorem oy(q:x.size<=1073741824) :
  Calls prog 264 #[string x] f fun e l=>e=returned (bool (iB x))/\l=f:=by
 go_enter func264,ntmps264;go_wp2
 go_loopg [3] x.size (fun g i wr=>∃k:Nat,k<=x.size/\g=x.size-k/\i=int i64 k/\Xr (∀i,i<k->ki (aH x i)=true)/\wr=f)
 ·exact⟨0,by omega,by omega,rfl,fun i h=>by omega,rfl⟩
 obtain⟨k,p,n,rfl,a,rfl⟩:=hrel;by_cases b:k<x.size
 ·cases d:ki (x[k].toNat:Int)
  ·have c:Xr (iB x=false):=Fp k b (by rw[bZ x k b];exact d);go_wp2_with fail;refine(qr _ _).mono ?_;rintro e m ⟨rfl,rfl⟩;go_wp2;go_ret;exact⟨aE c.o.symm,rfl⟩
  ·go_wp2_with fail;refine(qr _ _).mono ?_;rintro e m ⟨rfl,rfl⟩;go_wp2;go_roundg (x.size-(k+1))
   ·refine⟨k+1,by omega,rfl,by go_num,?_,rfl⟩;intro i j;by_cases e:i=k
    ·subst e;rw[bZ x i b];exact d
    ·exact a.o i (by omega)
   omega
 ·have c:Xr (iB x=true):=Bj (fun i j=>a.o i (by omega));go_wp2;go_ret;exact⟨aE c.o.symm,rfl⟩
theorem ly(h:aV f n i d o w b)(c:d.length=H)(a:w.Yl.length<=1073741824) :
  Calls prog 270 #[pointer (some ⟨n,H,none⟩),string x] f fun e l=>e=returned (bool (aJ w.Yl x))/\l=f:=by
 obtain⟨m,p,q,r,s,t,u,v,y,z,g,j,k⟩:=h.cells H c;go_enter func270,ntmps270;go_wp2_with fail;refine(fG (b 3) w.Yl x _ (by exact h.YF 3) a).mono ?_;rintro e A ⟨rfl,rfl⟩;go_wp2;go_ret;exact⟨rfl,rfl⟩
theorem nV(h:aV f n i d o w b)(c:d.length=H)(a:w.Ye.length<=1073741824) :
  Calls prog 271 #[pointer (some ⟨n,H,none⟩),string x] f fun e l=>e=returned (bool (aJ w.Ye x))/\l=f:=by
 obtain⟨m,p,q,r,s,t,u,v,y,z,g,j,k⟩:=h.cells H c;go_enter func271,ntmps271;go_wp2_with fail;refine(fG (b 1) w.Ye x _ (by exact h.YF 1) a).mono ?_;rintro e A ⟨rfl,rfl⟩;go_wp2;go_ret;exact⟨rfl,rfl⟩
theorem oA(h:aV f n i d o w b)(c:d.length=H)(a:w.Yo.length<=1073741824) :
  Calls prog 272 #[pointer (some ⟨n,H,none⟩),string x] f fun e l=>e=returned (bool (aJ w.Yo x))/\l=f:=by
 obtain⟨m,p,q,r,s,t,u,v,y,z,g,j,k⟩:=h.cells H c;go_enter func272,ntmps272;go_wp2_with fail;refine(fG (b 4) w.Yo x _ (by exact h.YF 4) a).mono ?_;rintro e A ⟨rfl,rfl⟩;go_wp2;go_ret;exact⟨rfl,rfl⟩
def eD(d:Db)(x:Xs):Bool:=aJ d.Yk x||aJ d.Ye x||aJ d.Yf x
def ff(d:Db)(x:Xs):Bool:=aJ d.Yk x||aJ d.Ye x||aJ d.Yl x
theorem mH(h:aV f n i d o w b)(l:d.length=H)(a:gC w 1073741824) :
  Calls prog 255 #[pointer (some ⟨n,H,none⟩),string x] f fun e r=>e=returned (bool (eD w x))/\r=f:=by
 obtain⟨s,t,u,v,y,z,A,B,C,D,m,p,q⟩:=h.cells H l;cases j:aJ w.Yk x
 ·cases k:aJ w.Ye x
  ·have c:Xr (eD w x=aJ w.Yf x):=(by show eD w x=_;simp[eD,j,k]);go_enter func255,ntmps255;go_wp2_with fail;refine(fG (b 0) w.Yk x _ (by exact h.YF 0) a.Yk).mono ?_;rintro e g ⟨rfl,rfl⟩;go_wp2_with fail;refine(fG (b 1) w.Ye x _ (by exact h.YF 1) a.Ye).mono ?_;rintro e g ⟨rfl,rfl⟩;go_wp2_with fail;refine(fG (b 2) w.Yf x _ (by exact h.YF 2) a.Yf).mono ?_;rintro e g ⟨rfl,rfl⟩;go_wp2;go_ret;exact⟨aE (by rw[c.o]),rfl⟩
  ·have c:Xr (eD w x=true):=(by show eD w x=_;simp[eD,j,k]);go_enter func255,ntmps255;go_wp2_with fail;refine(fG (b 0) w.Yk x _ (by exact h.YF 0) a.Yk).mono ?_;rintro e g ⟨rfl,rfl⟩;go_wp2_with fail;refine(fG (b 1) w.Ye x _ (by exact h.YF 1) a.Ye).mono ?_;rintro e g ⟨rfl,rfl⟩;go_wp2;go_ret;exact⟨aE (by rw[c.o]),rfl⟩
 ·have c:Xr (eD w x=true):=by show eD w x=_;simp[eD,j]
  go_enter func255,ntmps255;go_wp2_with fail;refine(fG (b 0) w.Yk x _ (by exact h.YF 0) a.Yk).mono ?_;rintro e g ⟨rfl,rfl⟩;go_wp2;go_ret;exact⟨aE (by rw[c.o]),rfl⟩
theorem BO(h:aV f n i d o w b)(l:d.length=H)(a:gC w 1073741824) :
  Calls prog 256 #[pointer (some ⟨n,H,none⟩),string x] f fun e r=>e=returned (bool (ff w x))/\r=f:=by
 obtain⟨s,t,u,v,y,z,A,B,C,D,m,p,q⟩:=h.cells H l;cases j:aJ w.Yk x
 ·cases k:aJ w.Ye x
  ·have c:Xr (ff w x=aJ w.Yl x):=(by show ff w x=_;simp[ff,j,k]);go_enter func256,ntmps256;go_wp2_with fail;refine(fG (b 0) w.Yk x _ (by exact h.YF 0) a.Yk).mono ?_;rintro e g ⟨rfl,rfl⟩;go_wp2_with fail;refine(fG (b 1) w.Ye x _ (by exact h.YF 1) a.Ye).mono ?_;rintro e g ⟨rfl,rfl⟩;go_wp2_with fail;refine(fG (b 3) w.Yl x _ (by exact h.YF 3) a.Yl).mono ?_;rintro e g ⟨rfl,rfl⟩;go_wp2;go_ret;exact⟨aE (by rw[c.o]),rfl⟩
  ·have c:Xr (ff w x=true):=(by show ff w x=_;simp[ff,j,k]);go_enter func256,ntmps256;go_wp2_with fail;refine(fG (b 0) w.Yk x _ (by exact h.YF 0) a.Yk).mono ?_;rintro e g ⟨rfl,rfl⟩;go_wp2_with fail;refine(fG (b 1) w.Ye x _ (by exact h.YF 1) a.Ye).mono ?_;rintro e g ⟨rfl,rfl⟩;go_wp2;go_ret;exact⟨aE (by rw[c.o]),rfl⟩
 ·have c:Xr (ff w x=true):=by show ff w x=_;simp[ff,j]
  go_enter func256,ntmps256;go_wp2_with fail;refine(fG (b 0) w.Yk x _ (by exact h.YF 0) a.Yk).mono ?_;rintro e g ⟨rfl,rfl⟩;go_wp2;go_ret;exact⟨aE (by rw[c.o]),rfl⟩
theorem mF(h:aV f n i d o w b)(a:d.length=H) :
  Calls prog 208 #[pointer (some ⟨n,H,none⟩)] f fun e k=>e=returned (bool (decide (0<w.Yy.length)))/\k=f:=by
 obtain⟨l,m,p,q,r,s,t,u,v,x,c,g,j⟩:=h.cells H a;go_enter func208,ntmps208;go_wp2;go_ret;exact⟨rfl,rfl⟩
def lT(d:Db):Bool:=d.Yw != 0||decide (0<d.Yy.length)
theorem um(h:aV f n i d o w b)(g:d.length=H) :
  Calls prog 159 #[pointer (some ⟨n,H,none⟩)] f fun e m=>e=returned (bool (lT w))/\m=f:=by
 obtain⟨p,q,r,s,t,u,v,x,y,z,j,k,l⟩:=h.cells H g;cases c:(w.Yw != 0)
 ·have a:Xr (lT w=decide (0<w.Yy.length)):=by show lT w=_;simp only[lT,c,Bool.false_or]
  go_enter func159,ntmps159;go_wp2_with fail;refine(mF n i H d o w b _ h g).mono ?_;rintro e A ⟨rfl,rfl⟩;go_wp2;go_ret;exact⟨aE (by rw[a.o]),rfl⟩
 ·have a:Xr (lT w=true):=by show lT w=_;simp only[lT,c,Bool.true_or]
  go_enter func159,ntmps159;go_wp2_with fail;go_ret;exact⟨aE (by rw[a.o]),rfl⟩
def mV(d:Db):Int:=if(d.Yw==1)=true∨(d.Yw==2)=true then 2 else 1
theorem vo(h:aV f n i d o w b)(j:d.length=H) :
  Calls prog 252 #[pointer (some ⟨n,H,none⟩)] f fun e p=>e=returned (int i64 (mV w))/\p=f:=by
 obtain⟨q,r,s,t,u,v,x,y,z,A,k,l,m⟩:=h.cells H j;cases c:(w.Yw==1)
 ·cases g:(w.Yw==2)
  all_goals
   have a:Xr (mV w=if(w.Yw==1)=true∨(w.Yw==2)=true then 2 else 1):=rfl;go_enter func252,ntmps252;go_wp2;go_ret;exact⟨T0 (by rw[a.o,c,g];simp),rfl⟩
 ·have a:Xr (mV w=2):=by show mV w=_;simp only[mV,c];simp
  go_enter func252,ntmps252;go_wp2;go_ret;exact⟨T0 (by rw[a.o]),rfl⟩
theorem J5(o:aB f N (aD M))(r:y<=1073741824) :
  Calls prog 263 #[slice N.ao M.length N.cap,int i64 y] f fun e s=>e=returned (slice N.ao (if y<=M.length then y else M.length) N.cap)/\s=f:=by
 obtain⟨t,c⟩:=N;by_cases a:y<=M.length
 ·rcases o.Ys with ⟨d,n,_⟩ | ⟨g,p,j,k,l,m,_⟩
  ·have b:M.length=0:=n;have i:y=0:=(by omega);subst i
   injection d with d k
   subst d k;simp only[if_pos a];rw[b];clear o n a b r;go_enter func263,ntmps263;go_wp2;go_ret;exact⟨rfl,rfl⟩
  ·simp only at j l m;have q:M.length<=c:=l;unfold maxLen at m;subst j;simp only[if_pos a];go_enter func263,ntmps263;go_wp2;go_ret;exact⟨rfl,rfl⟩
 ·simp only[if_neg a];go_enter func263,ntmps263;go_wp2;go_ret;exact⟨rfl,rfl⟩
theorem aB.cut(o:aB a z7 (aD zt))(c:Nat)(t:c<=zt.length):aB a z7 (aD (zt.take c)):=by
 have e:(zt.take c).length=c:=by simp;omega
 rcases o.Ys with ⟨m,q,_⟩ | ⟨g,d,i,n,j,k,l,p⟩
 ·have r:zt.length=0:=q;have:c=0:=by omega
  subst this;subst m;exact⟨by simp[aD,dm],Us ⟨by simp[aD],by simp[aD]⟩⟩
 ·obtain⟨s,b⟩:=z7;simp only at i j k l;subst i;refine⟨by simp[aD,dm],Uo ⟨g,b,d,rfl,UF _,n,?_,k,l,?_⟩⟩
  ·have:zt.length<=b:=j;simp only[aD];omega
  ·have f:d.toList.take (zt.length*1)=dm zt:=p;simp only[aD,e];have:dm (zt.take c)=(dm zt).take c:=by simp[dm,List.map_take]
   rw[this,<-f,Xc];congr 1;omega
theorem SS:(prog.info? 337).map (fun i=>(i.zero,i.size,i.bytes))=some (some (agg #[int i64 0,int i64 0]),2,16):=by kernel_rfl
theorem sZ:qR (L++[z3])=qR L++[int i64 z3.1,int i64 z3.2]:=by simp[qR]
theorem Lp:(⟨(pq L).e,(pq L).size,(pq L).n+1,(pq L).xs++[int i64 z3.1,int i64 z3.2]⟩:ew)=pq (L++[z3]):=by
 simp[pq,sZ]
set_option maxRecDepth 100000
theorem xt(h:aV f n i d o w b)(v:d.length=H)(O:w.Yy.length<=1073741824) :
  Calls prog 247 #[pointer (some ⟨n,H,none⟩)] f fun e y=>e=returned (tuple #[])/\∃r,aV y n i d o { w with Yy:=w.Yy++[(w.Yl.length,w.Yo.length)] } r/\aw n f b y r:=by
 obtain⟨E,B,m,p,q⟩:=UC SS;obtain⟨Q,R,S,T,U,V,W,X,Y,Z,F,G,I⟩:=h.cells H v;have A:=h.lt;have t:Xr (aV (f.alloc (.cells #[int i64 w.Yl.length,int i64 w.Yo.length] 337)).drew n i d o w b):=h.Yh ((ae.refl [] f).alloc _).drew;have J:Xr (∀j u,([int i64 w.Yl.length,int i64 w.Yo.length]:List Value)[j]?=some u->(f.alloc (.cells #[int i64 w.Yl.length,int i64 w.Yo.length] 337)).drew.cell? ((⟨f.heap.size,0,none⟩:Addr).add j)=some u):=by
  intro j u C;rw[bS];have D:(f.alloc (.cells #[int i64 w.Yl.length,int i64 w.Yo.length] 337)).drew.heap[f.heap.size]?=some (.cells #[int i64 w.Yl.length,int i64 w.Yo.length] 337):=Ui _ _;rw[ah D];simpa using C
 have K:Xr (∀u∈([int i64 w.Yl.length,int i64 w.Yo.length]:List Value),u.oneCell'=true):=by
  intro u x;simp at x;rcases x with rfl | rfl <;> rfl
 have L:Xr ((pq w.Yy).n+1<=maxLen):=by show _<=_;simp only[pq];unfold maxLen;omega
 have M:Xr (((pq w.Yy).n+1)*16<=140737488355328):=by show _<=_;simp only[pq];omega
 clear h;go_enter func247,ntmps247;go_wp2_with fail;go_region_law (refine cv rfl (.tmp 6) (.tmp 18) 194 rfl E (agg #[int i64 0,int i64 0]) 16 (b 5) (pq w.Yy) underlying194 B m p q rfl Xo (by simp[Act.eval] <;> rfl) (t.o.YF 5) ⟨f.heap.size,0,none⟩ 1 1 [int i64 w.Yl.length,int i64 w.Yo.length] (by simp[Act.eval]) rfl J.o K.o UA L.o M.o ?_;intro g c w1 l k a;obtain⟨P,N,s⟩:=t.o.app (d':={ w with Yy:=w.Yy++[(w.Yl.length,w.Yo.length)] }) H 5 v 5 (by omega) g c ((pq w.Yy).n+1) _ l (Lp w.Yy (w.Yl.length,w.Yo.length)) k (by simpa using a) (wj w b _) (by omega) _ rfl (by simp[cO,ie,pq]);clear l k a)
 all_goals go_wp2
 all_goals go_end0
 all_goals exact⟨rfl,_,s.o.1,s.o.2.first ((ae.refl [] f).alloc _).drew⟩
theorem pU(l:List (Nat×Nat)):(qR l).length=l.length*2:=by
 induction l with
 | nil=>rfl
 | cons a r b=>simp only[qR,List.flatMap_cons,List.length_append,List.length_cons,List.length_nil]at *;omega
theorem yA:(qR (L++[z3]))[L.length*2]?=some (int i64 z3.1)/\(qR (L++[z3]))[L.length*2+1]?=some (int i64 z3.2):=by
 rw[sZ];have:=pU L;constructor
 ·rw[Ur (by omega),this];simp
 ·rw[Ur (by omega),this];simp
theorem aB.pop{l:List (Nat×Nat)}{x:Nat×Nat}(o:aB a z7 (pq (l++[x]))):aB a z7 (pq l):=by
 rcases o.Ys with ⟨t,r,_⟩ | ⟨g,c,i,n,j,k,m,p⟩
 ·have f:(l++[x]).length=0:=r;simp at f
 ·obtain⟨s,b⟩:=z7;simp only at i j k m;subst i;have d:(l++[x]).length<=b:=j;simp at d;refine⟨by simp only[pq];exact pU l,Uo ⟨g,b,c,rfl,UF _,n,?_,k,m,?_⟩⟩
  ·simp only[pq];omega
  ·have e:c.toList.take ((l++[x]).length*2)=qR (l++[x]):=p;simp only[pq];have q:qR l=(qR (l++[x])).take (l.length*2):=by rw[sZ,List.take_left' (pU l)]
   rw[q,<-e,Xc];congr 1;simp
def dA(d:Db)(bl:List (Nat×Nat))(x:Nat×Nat):Db:={ d with Yy:=bl,Yl:=d.Yl.take x.1,Yo:=d.Yo.take x.2 }
theorem OH:(M.take T).length=if T<=M.length then T else M.length:=by
 rw[U6];split <;> omega
theorem aB.taken(o:aB a z7 (aD zt))(c:Nat):aB a z7 (aD (zt.take c)):=by
 by_cases b:c<=zt.length
 ·exact o.cut c b
 ·rw[VG (by omega)];exact o
theorem xS(b:Xr ((M.take H).length=y))(c:aB f N (aD M))(a:H<=1073741824) :
  Calls prog 263 #[slice N.ao M.length N.cap,int i64 H] f fun e d=>e=returned (slice N.ao y N.cap)/\d=f:=by
 have e:y=if H<=M.length then H else M.length:=by rw[<-b.o,OH]
 rw[e];exact J5 N M H f c a
theorem rE{d':Db}(h:aV a D g z4 y9 l S)(f:z4.length=z0)(d:y<10)(k:aB a (S y) (a8 d' S y))(b:∀j,j≠y->a8 d' S j=a8 l S j)(u:Value)(c:T<13)(e:(cO l S).set T u=cO d' (ie S y (S y))) :
  aV (a.setCell ⟨D,z0+T,none⟩ u) D g z4 y9 d' S/\aw D a S (a.setCell ⟨D,z0+T,none⟩ u) S:=by
 have i:=OQ S y;have:=h.put (d':=d') z0 T f y d (S y) k (XG _ _) (Uo (Us rfl)) b u c e;rw[i]at this;exact this
theorem Bz(h:aV f n i d o w b)(z:d.length=H)(E:w.Yy=L++[z3])(hs:gC w 1073741824)(hx:z3.1<=1073741824/\z3.2<=1073741824) :
  Calls prog 249 #[pointer (some ⟨n,H,none⟩)] f fun e w'=>e=returned (tuple #[])/\aV w' n i d o (dA w L z3) b/\aw n f b w' b:=by
 obtain⟨M,N,O,P,Q,x,R,S,T,U,q,r,s⟩:=h.cells H z;obtain⟨a,j⟩:=z3;simp only at hx;have p:=h.free;have af:=h.lt;have I:=h.YF 5;have c:aB f (b 5) (pq (L++[(a,j)])):=by have:=I;simp only[a8,E]at this;exact this
 have v:=hs.Yy;rw[E]at v x;simp only[List.length_append,List.length_cons,List.length_nil]at v x;rcases c.Ys with ⟨e0,h0,_⟩ | ⟨g,ad,K,e2,e3,e4,e5,e6⟩
 ·have Y:(L++[(a,j)]).length=0:=h0;simp at Y
 ·have p1:=c.cell K (L.length*2) _ (yA L (a,j)).1;have p2:=c.cell K (L.length*2+1) _ (yA L (a,j)).2;have ac:L.length+1<=(b 5).cap:=by have:(L++[(a,j)]).length<=(b 5).cap:=e3;simpa using this
  have W:=rE 5 5 (d':={ w with Yy:=L }) h z (by omega) c.pop (wj w b L) (slice (some ⟨g,0,none⟩) L.length (b 5).cap) (by omega) (by simp[cO,ie,K]);obtain⟨t,k⟩:∃t,t=(f.setCell ⟨n,H+5,none⟩ (slice (some ⟨g,0,none⟩) L.length (b 5).cap)).alloc (.cells #[int i64 a,int i64 j] 337):=⟨_,rfl⟩
  have y:aV t n i d o { w with Yy:=L } b:=by rw[k];exact W.1.Yh (bM.alloc _)
  have T2:aw n f b t b:=by rw[k];exact W.2.Yh (bM.alloc _)
  have V:t.heap[f.heap.size]?=some (.cells #[int i64 a,int i64 j] 337):=by
   rw[k];have:=Ui (f.setCell ⟨n,H+5,none⟩ (slice (some ⟨g,0,none⟩) L.length (b 5).cap)) (.cells #[int i64 a,int i64 j] 337);simpa [World.setCell] using this
  have HW:Xr ((f.setCell ⟨n,H+5,none⟩ (slice (some ⟨g,0,none⟩) L.length (b 5).cap)).alloc (.cells #[int i64 a,int i64 j] 337)=t):=k.symm;rw[K]at x;simp only at p1 p2;clear I c e3 e4 e5 e6 e2 h W k;go_enter func249,ntmps249;go_upto_region 4 with fail
  rw[HW.o];obtain⟨c0,c1⟩:=xx V;have Z:f.heap.size≠n:=by omega
  clear HW M N O P Q x R S T U q r s p1 p2 p;obtain⟨M,N,O,P,Q,x,R,S,T,U,q,r,s⟩:=y.cells H z;have p:=y.free;obtain⟨J,F⟩:∃m,Xr ((w.Yl.take a).length=m):=⟨_,rfl⟩
  obtain⟨m2,G⟩:∃m,Xr ((w.Yo.take j).length=m):=⟨_,rfl⟩
  have X:=rE 3 3 (d':={ w with Yy:=L,Yl:=w.Yl.take a }) y z (by omega) ((y.YF 3).taken a) (wi { w with Yy:=L } b (w.Yl.take a)) (slice (b 3).ao J (b 3).cap) (by omega) (by simp only[cO,dH,<-F.o];rfl);obtain⟨u,l⟩:∃u,u=(t.setCell ⟨n,H+3,none⟩ (slice (b 3).ao J (b 3).cap)).drew:=⟨_,rfl⟩
  have A:Xr (aV u n i d o { w with Yy:=L,Yl:=w.Yl.take a } b):=by rw[l];exact X.1.Yh bM.drew
  have T3:Xr (aw n f b u b):=by rw[l];exact T2.trans (X.2.Yh bM.drew)
  have B3:Xr (u.heap[f.heap.size]?=some (.cells #[int i64 a,int i64 j] 337)):=by
   show u.heap[f.heap.size]?=_;rw[l];exact(Ut t ⟨n,H+3,none⟩ (slice (b 3).ao J (b 3).cap) f.heap.size Z).trans V
  have C:Xr ((t.setCell ⟨n,H+3,none⟩ (slice (b 3).ao J (b 3).cap)).drew=u):=l.symm;clear l X;go_region_with (go_at_call 263;refine(xS (b 3) w.Yl a J _ F (by exact y.YF 3) hx.1).mono ?_;rintro e u ⟨rfl,rfl⟩)
  all_goals go_upto_region 5 with fail
  all_goals rw[C.o]
  all_goals
   clear C M N O P Q x R S T U q r s p y T2 V c0 c1;obtain⟨c0,c1⟩:=xx B3.o;obtain⟨M,N,O,P,Q,x,R,S,T,U,q,r,s⟩:=A.o.cells H z;have p:=A.o.free;have P4:=rE 4 4 (d':=dA w L (a,j)) A.o z (by omega) ((A.o.YF 4).taken j) (yT { w with Yy:=L,Yl:=w.Yl.take a } b (w.Yo.take j)) (slice (b 4).ao m2 (b 4).cap) (by omega) (by simp only[cO,dA,dH,<-G.o];rfl);have B:Xr _:=P4;clear P4;go_region_with (go_at_call 263;refine(xS (b 4) w.Yo j m2 _ G (by exact A.o.YF 4) hx.2).mono ?_;rintro e u ⟨rfl,rfl⟩)
   all_goals go_wp2
   all_goals go_end0
   all_goals exact⟨rfl,B.o.1.Yh bM.drew,T3.o.trans (B.o.2.Yh bM.drew)⟩
theorem Dy{α:Type}(f:α->List Value)(n:Nat)(b:∀a,(f a).length=n)(l:List α):(l.flatMap f).length=l.length*n:=by
 induction l with
 | nil=>simp
 | cons a l c=>simp only[List.flatMap_cons,List.length_append,b,c,List.length_cons];rw[Xp];omega
theorem Dx{α:Type}(f:α->List Value)(n:Nat)(b:∀a,(f a).length=n)(l:List α)(i j:Nat)(c:i<l.length)(g:j<n):(l.flatMap f)[i*n+j]?=(f l[i])[j]?:=by
 induction l generalizing i with
 | nil=>simp at c
 | cons a l d =>
  rw[U4];cases i with
  | zero=>rw[Uv (by rw[b];omega)];simp
  | succ i =>
   have e:(i+1)*n+j=n+(i*n+j):=(by rw[Xp];omega);rw[Ur (by rw[b,e];omega),b,e,show n+(i*n+j)-n=i*n+j by omega];exact d i (by simpa using c)
theorem Na{α:Type}(f:α->List Value)(n:Nat)(b:∀a,(f a).length=n)(l:List α)(i j:Nat)(g:i<l.length)(m:j<n)(c:α)(v:Value)(d:f c=(f l[i]).set j v) :
  (l.flatMap f).set (i*n+j) v=(l.set i c).flatMap f:=by
 induction l generalizing i with
 | nil=>simp at g
 | cons a l k =>
  cases i with
  | zero =>
   rw[WW,U4,U4,WL _ _ (by rw[b];omega),d];simp
  | succ i =>
   have e:(i+1)*n+j=n+(i*n+j):=(by rw[Xp];omega);rw[Wb,U4,U4,V9 _ _ (by rw[b,e];omega),b,e,show n+(i*n+j)-n=i*n+j by omega];rw[k i (by simpa using g) (by simpa using d)]
theorem Oy:(ny v z5).length=v.length*8:=by
 unfold ny;rw[Dy _ 8 (fun _=>rfl)];simp
theorem Id:(oP ya).length=ya.length*4:=Dy _ 4 (fun _=>rfl) ya
theorem Jp(a:T<v.length)(j:Nat)(b:j<8):(ny v z5)[T*8+j]?=(LB v[T] (z5 (10+2*T)) (z5 (11+2*T)))[j]?:=by
 unfold ny;rw[Dx _ 8 (fun _=>rfl) _ T j (by simpa using a) b];simp
theorem L8(a:T<ya.length)(j:Nat)(b:j<4):(oP ya)[T*4+j]?=(sD ya[T])[j]?:=Dx _ 4 (fun _=>rfl) ya T j a b
theorem LN:ny (v++[yf]) z5=ny v z5++LB yf (z5 (10+2*v.length)) (z5 (11+2*v.length)):=by
 unfold ny;rw[List.zipIdx_append];simp
theorem Ij:(v.set H yf).zipIdx=v.zipIdx.set H (yf,H):=by
 apply VZ;intro j;simp only[List.getElem?_zipIdx,List.getElem?_set,List.length_zipIdx];by_cases e:H=j
 ·subst e;by_cases a:H<v.length <;> simp[a]
 ·simp[e]
theorem Oz(a:T<v.length)(N:Nat):(ny v z5).set (T*8+7) (int i64 N)=ny (v.set T { v[T] with til:=N }) z5:=by
 unfold ny;rw[Ij];exact Na _ 8 (fun _=>rfl) _ T 7 (by simpa using a) (by omega) _ _ (by simp[LB])
theorem EK:(dm M).length=M.length*1:=by simp[dm]
theorem Ax:jF (I++[T])=jF I++[int i64 T]:=by simp[jF]
theorem me:(⟨(bu I).e,(bu I).size,(bu I).n+1,(bu I).xs++[int i64 T]⟩:ew)=bu (I++[T]):=by simp[bu,Ax]
theorem yb:(prog.info? 3).map (fun i=>(i.zero,i.size,i.bytes))=some (some (int i64 0),1,8):=by kernel_rfl
def ph(k:Int):Bool:=k==4||k==5
set_option maxRecDepth 512
theorem dj(c d f g i j l:Value)(w:World) :
  Calls prog 161 #[agg #[int i64 k,c,d,f,g,i,j,l]] w fun e m=>e=returned (bool (ph k))/\ae [] w m:=by
 cases b:(k==4)
 ·have a:Xr (ph k=(k==5)):=by show ph k=_;simp only[ph,b,Bool.false_or]
  go_enter func161,ntmps161;go_wp2;go_ret;exact⟨aE (by rw[a.o]),(ae.refl _ _).alloc _⟩
 ·have a:Xr (ph k=true):=by show ph k=_;simp only[ph,b,Bool.true_or]
  go_enter func161,ntmps161;go_wp2;go_ret;exact⟨aE (by rw[a.o]),(ae.refl _ _).alloc _⟩
set_option maxRecDepth 100000
theorem Cn(h:aV f n i d o w b)(A:d.length=H)(J:gC w 100000000) :
  Calls prog 248 #[pointer (some ⟨n,H+6,none⟩)] f fun e C=>e=returned (tuple #[])/\∃x,aV C n i d o { w with rbl:=w.rbl++[w.Yt.length] } x/\aw n f b C x:=by
 obtain⟨K,E,m,p,q⟩:=UC yb;obtain⟨L,M,N,O,P,Q,Z,q7,R,S,r,s,t⟩:=h.cells H A;clear L M N O P Q R S r s t;have D:=h.lt;have I:=J.rbl;have z:Xr (aV (f.alloc (.cells #[int i64 w.Yt.length] 3)).drew n i d o w b):=h.Yh ((ae.refl [] f).alloc _).drew;have T:Xr (∀j u,([int i64 w.Yt.length]:List Value)[j]?=some u->(f.alloc (.cells #[int i64 w.Yt.length] 3)).drew.cell? ((⟨f.heap.size,0,none⟩:Addr).add j)=some u):=by
  intro j u F;have G:(f.alloc (.cells #[int i64 w.Yt.length] 3)).drew.heap[f.heap.size]?=some (.cells #[int i64 w.Yt.length] 3):=Ui _ _;rw[bS,ah G];simpa using F
 have U:Xr (∀u∈([int i64 w.Yt.length]:List Value),u.oneCell'=true):=by intro u B;simp at B;subst B;rfl
 have V:Xr ((bu w.rbl).n+1<=maxLen):=by show _<=_;simp only[bu];unfold maxLen;omega
 have W:Xr (((bu w.rbl).n+1)*8<=140737488355328):=by show _<=_;simp only[bu];omega
 clear h;go_enter func248,ntmps248;go_wp2_with fail;go_region_law (refine cv rfl (.tmp 6) (.tmp 12) 24 rfl K (int i64 0) 8 (b 7) (bu w.rbl) underlying24 E m p q rfl UA (by simp[Act.eval] <;> rfl) (z.o.YF 7) ⟨f.heap.size,0,none⟩ 1 1 [int i64 w.Yt.length] (by simp[Act.eval]) rfl T.o U.o UA V.o W.o ?_;intro g c w1 l k a;obtain⟨Y,X,y⟩:=z.o.app (d':={ w with rbl:=w.rbl++[w.Yt.length] }) H 7 A 7 (by omega) g c ((bu w.rbl).n+1) _ l (me w.rbl _) k (by simpa using a) (Ez w b _) (by omega) _ rfl (by simp[cO,ie,bu]);clear l k a)
 all_goals go_wp2
 all_goals go_end0
 all_goals exact⟨rfl,_,y.o.1,y.o.2.first ((ae.refl [] f).alloc _).drew⟩
def lR(N:Nat)(s:St):St:=if s.til=0/\ph s.Yw=false then { s with til:=N } else s
def gZ(l:List St)(b n:Nat):List St:=l.mapIdx (fun i s=>if b<=i/\i<n then lR l.length s else s)
def kL(l:List St)(b:Nat):List St:=gZ l b l.length
theorem kV:(gZ v y T).length=v.length:=by simp[gZ]
theorem nC:(gZ v H y)[T]?=v[T]?.map (fun s=>if H<=T/\T<y then lR v.length s else s):=by simp[gZ]
theorem Do:gZ v T T=v:=by
 apply VZ;intro i;rw[nC];have:¬(T<=i/\i<T):=by omega
 simp[this]
theorem xJ(b:y<=T)(c:T<v.length):gZ v y (T+1)=(gZ v y T).set T (lR v.length v[T]):=by
 apply VZ;intro i;rw[Ve,nC,nC,kV];by_cases e:T=i
 ·subst e;have a:y<=T/\T<T+1:=⟨b,by omega⟩;simp[c,a]
 ·have:(y<=i/\i<T+1) ↔ (y<=i/\i<T):=by omega
  simp[e,this]
theorem FF(b:y<=T)(a:T<v.length)(h:lR v.length v[T]=v[T]):gZ v y (T+1)=gZ v y T:=by
 rw[xJ v y T b a,h];apply VZ;intro i;rw[Ve,kV];by_cases e:T=i
 ·subst e;rw[nC];simp[a]
 ·simp[e]
theorem M3(a:T<v.length):(gZ v y T)[T]?=some v[T]:=by
 rw[nC];simp[a]
theorem zd(b:T<v.length)(N:Nat)(i:Nat):symsAt (v.set T { v[T] with til:=N }) i=symsAt v i/\uu (v.set T { v[T] with til:=N }) i=uu v i:=by
 unfold symsAt uu;rw[Ve];by_cases e:T=i
 ·subst e;simp[b]
 ·simp[e]
theorem aV.til(h:aV a D g z4 y9 l S)(d:Nat)(r:(S 6).ao=some ⟨d,0,none⟩)(n:Nat)(t:n<l.Yt.length)(N:Nat) :
  aV (a.setCell ⟨d,n*8+7,none⟩ (int i64 N)) D g z4 y9 { l with Yt:=l.Yt.set n { l.Yt[n] with til:=N } } S/\aw D a S (a.setCell ⟨d,n*8+7,none⟩ (int i64 N)) S:=by
 have b:(S 6).Yv=some d:=by unfold Hd.Yv;rw[r];rfl
 have s:d≠D:=by rintro rfl;exact h.off 6 b
 refine⟨⟨?_,?_,h.apart,h.off⟩,(gy.refl _ _).setCell (Us (Uo ⟨6,b⟩)) _,fun _ j=>Us j⟩
 ·rw[Ut _ _ _ _ (fun e=>s e.symm),h.Yv];simp[cO]
 ·intro i;by_cases e:i=6
  ·subst e;have E:aB a (S 6) (jt l.Yt S):=h.YF 6;show aB _ (S 6) (jt (l.Yt.set n { l.Yt[n] with til:=N }) S);rcases E.Ys with ⟨F,B,_⟩ | ⟨u,f,c,w,x,y,z,A⟩
   ·have:l.Yt.length=0:=B;omega
   ·have:u=d:=(by rw[r]at c;injection c with c;injection c with c;exact c.symm);subst this;refine⟨by simp only[jt];rw[Oy],Uo ⟨u,(S 6).cap,f.setIfInBounds (n*8+7) (int i64 N),?_,UF _,ab w _ _,?_,y,?_,?_⟩⟩
    ·simp[jt,r]
    ·simpa [jt] using x
    ·simpa [jt] using z
    ·have q:f.toList.take (l.Yt.length*8)=ny l.Yt S:=A;simp only[jt,List.length_set,Array.toList_setIfInBounds,List.take_set,q];exact Oz l.Yt S n t N
  ·have C:a8 { l with Yt:=l.Yt.set n { l.Yt[n] with til:=N } } S i=a8 l S i:=by
    match i,e with
    | 0,_=>rfl
    | 1,_=>rfl
    | 2,_=>rfl
    | 3,_=>rfl
    | 4,_=>rfl
    | 5,_=>rfl
    | 6,e=>exact absurd rfl e
    | 7,_=>rfl
    | 8,_=>rfl
    | 9,_=>rfl
    | m+10,_=>simp only[a8,inner,(zd l.Yt n t N (m / 2)).1,(zd l.Yt n t N (m / 2)).2]
   rw[C];refine(h.YF i).Ym (fun k j=>Ut _ _ _ _ ?_);rintro rfl;rcases h.apart i 6 e with p | p
   ·rw[p]at j;cases j
   ·exact p (j.trans b.symm)
theorem aV.stmt(h:aV a D g z4 y9 l S)(b:Nat)(d:(S 6).ao=some ⟨b,0,none⟩)(n:Nat)(s:St)(i:l.Yt[n]?=some s) :
  a.cell? ⟨b,n*8,none⟩=some (int i64 s.Yw)/\a.cell? ⟨b,n*8+1,none⟩=some (string s.Yx)/\a.cell? ⟨b,n*8+2,none⟩=some (slice (S (10+2*n)).ao s.Yc.length (S (10+2*n)).cap) /\
  a.cell? ⟨b,n*8+3,none⟩=some (slice (S (11+2*n)).ao s.Yn.length (S (11+2*n)).cap)/\a.cell? ⟨b,n*8+4,none⟩=some (string s.YA.YB)/\a.cell? ⟨b,n*8+5,none⟩=some (int i64 s.YA.YC) /\
  a.cell? ⟨b,n*8+6,none⟩=some (int i64 s.YA.YD)/\a.cell? ⟨b,n*8+7,none⟩=some (int i64 s.til):=by
 obtain⟨f,rfl⟩:=Uk.1 i;have m:aB a (S 6) (jt l.Yt S):=h.YF 6;have c:=fun j (e:j<8) v (k:(LB l.Yt[n] (S (10+2*n)) (S (11+2*n)))[j]?=some v)=>m.cell d (n*8+j) v ((Jp l.Yt S n f j e).trans k);exact⟨c 0 (by omega) _ rfl,c 1 (by omega) _ rfl,c 2 (by omega) _ rfl,c 3 (by omega) _ rfl,c 4 (by omega) _ rfl,c 5 (by omega) _ rfl,c 6 (by omega) _ rfl,c 7 (by omega) _ rfl⟩
theorem Eb:(jF I).length=I.length*1:=by simp[jF]
theorem aB.popN{l:Xv}(o:aB a z7 (bu (l++[D]))):aB a z7 (bu l):=by
 rcases o.Ys with ⟨t,r,_⟩ | ⟨g,c,i,n,j,k,m,p⟩
 ·have f:(l++[D]).length=0:=r;simp at f
 ·obtain⟨s,b⟩:=z7;simp only at i j k m;subst i;have d:(l++[D]).length<=b:=j;simp at d;refine⟨by simp only[bu];exact Eb l,Uo ⟨g,b,c,rfl,UF _,n,?_,k,m,?_⟩⟩
  ·simp only[bu];omega
  ·have e:c.toList.take ((l++[D]).length*1)=jF (l++[D]):=p;simp only[bu];have q:jF l=(jF (l++[D])).take (l.length*1):=by rw[Ax,List.take_left' (Eb l)]
   rw[q,<-e,Xc];congr 1;simp
theorem GA(h:aV f n i d o w b)(ho:d.length=H)(O:w.rbl=I++[y])(hs:gC w 100000000)(hx:y<=w.Yt.length) :
  Calls prog 250 #[pointer (some ⟨n,H+6,none⟩)] f fun e w'=>e=returned (tuple #[])/\aV w' n i d o { w with rbl:=I,Yt:=kL w.Yt y } b/\aw n f b w' b:=by
 obtain⟨R,S,U,V,W,X,E,v,Y,Z,j,l,m⟩:=h.cells H ho;clear R S U V W X Y Z j l m;have B:=h.free;have r:aB f (b 7) (bu (I++[y])):=by have:=h.YF 7;simp only[a8,O]at this;exact this
 have u:=hs.rbl;have ai:=hs.Yt;rw[O]at u v;simp only[List.length_append,List.length_cons,List.length_nil]at u v;rcases r.Ys with ⟨e0,h0,_⟩ | ⟨g,ap,e1,e2,e3,e4,e5,x⟩
 ·have ad:(I++[y]).length=0:=h0;simp at ad
 ·have p1:=r.cell e1 I.length (int i64 y) (by simp[bu,jF]);have ao:I.length+1<=(b 7).cap:=by have:(I++[y]).length<=(b 7).cap:=e3;simpa using this
  have P1:=rE 7 7 (d':={ w with rbl:=I }) h ho (by omega) r.popN (Ez w b I) (slice (some ⟨g,0,none⟩) I.length (b 7).cap) (by omega) (by simp[cO,ie,e1]);rw[e1]at v;have HP:Xr _:=P1;clear r e3 e4 e5 x e2 h P1;go_enter func250,ntmps250;go_wp2
  go_loopg [4] (w.Yt.length-y) (fun g ax wr=>∃k:Nat,y<=k/\k<=w.Yt.length/\g=w.Yt.length-k/\ax=int i64 k/\aV wr n i d o { w with rbl:=I,Yt:=gZ w.Yt y k } b/\aw n f b wr b)
  ·exact⟨y,by omega,hx,rfl,rfl,by rw[Do];exact HP.o.1,HP.o.2⟩
  obtain⟨k,c,ar,hg,rfl,D,T⟩:=hrel;clear HP E v p1 B;obtain⟨R,S,U,V,W,X,E,v,Y,Z,j,l,m⟩:=D.cells H ho;clear R S U V W X v Y Z j l m;have B:=D.free;simp only[kV]at E;by_cases q:k<w.Yt.length
  ·have p:=M3 w.Yt y k q;have Q:aB wr (b 6) (jt (gZ w.Yt y k) b):=D.YF 6;rcases Q.Ys with ⟨_,h0,_⟩ | ⟨L,an,x,z,ac,-⟩
   ·have:(gZ w.Yt y k).length=0:=h0;rw[kV]at this;omega
   ·obtain⟨c0,c1,c2,c3,c4,c5,c6,c7⟩:=D.stmt L x k _ p;rw[x]at E;have A:=am z;have HS:Xr (∀N:Nat,aV wr n i d o { w with rbl:=I,Yt:=gZ w.Yt y k } b->∀F,ae [] wr F->aV (F.setCell ⟨L,k*8+7,none⟩ (int i64 N)) n i d o { w with rbl:=I,Yt:=(gZ w.Yt y k).set k { w.Yt[k] with til:=N } } b/\aw n f b (F.setCell ⟨L,k*8+7,none⟩ (int i64 N)) b):=by
     intro N D F c;have G:=D.Yh c;have hn:k<(gZ w.Yt y k).length:=by rw[kV];exact q
     have P:=G.til L x k hn N;have es:(gZ w.Yt y k)[k]=w.Yt[k]:=(by have:=p;rw[Ub hn]at this;simpa using this);simp only[es]at P;exact⟨P.1,(T.Yh c).trans P.2⟩
    have J:Xr (lR w.Yt.length w.Yt[k]=w.Yt[k]->gZ w.Yt y (k+1)=gZ w.Yt y k):=FF w.Yt y k c q;have H2:Xr (gZ w.Yt y (k+1)=(gZ w.Yt y k).set k (lR w.Yt.length w.Yt[k])):=xJ w.Yt y k c q;have ag:=z;have M:Xr _:=p;clear p Q z ac;generalize w.Yt[k]=s at *;cases hz:((s.til:Int)==0)
    ·have K:Xr (gZ w.Yt y (k+1)=gZ w.Yt y k):=J.o (by
      have:¬s.til=0:=by intro e;simp[e]at hz
      simp[lR,this])
     clear HS J H2 A;go_wp2;go_roundg (w.Yt.length-(k+1))
     ·exact⟨k+1,by omega,by omega,rfl,by go_num,by rw[K.o];exact D,T⟩
     omega
    ·have C:s.til=0:=(by have:=WP hz;omega);cases ha:ph s.Yw
     ·have K:Xr (gZ w.Yt y (k+1)=(gZ w.Yt y k).set k { s with til:=w.Yt.length }):=by
       show _=_;rw[H2.o];simp[lR,C,ha]
      clear J H2 C;go_wp2_with (go_at_call 161;refine(dj s.Yw _ _ _ _ _ _ _ _).mono ?_;rintro e F ⟨rfl,a⟩;have af:=a.get ag (by simp));have G:=D.Yh a;have PS:Xr _:=(fun N=>HS.o N D _ a);obtain⟨R,S,U,V,W,X,E,v,Y,Z,j,l,m⟩:=G.cells H ho;clear R S U V W X v Y Z j l m;simp only[kV,x]at E;obtain⟨c0,c1,c2,c3,c4,c5,c6,c7⟩:=G.stmt L x k _ M.o;clear c0 c1 c2 c3 c4 c5 c6;have A:=am af;have B:=G.free;go_region
      all_goals go_wp2
      all_goals
       go_roundg (w.Yt.length-(k+1))
       ·exact⟨k+1,by omega,by omega,rfl,by go_num,by rw[K.o];exact(PS.o _).1.Yh bM.drew,(PS.o _).2.Yh bM.drew⟩
       omega
     ·have K:Xr (gZ w.Yt y (k+1)=gZ w.Yt y k):=J.o (by simp[lR,ha]);clear HS J H2 A C;go_wp2_with (go_at_call 161;refine(dj s.Yw _ _ _ _ _ _ _ _).mono ?_;rintro e F ⟨rfl,a⟩);go_roundg (w.Yt.length-(k+1))
      ·exact⟨k+1,by omega,by omega,rfl,by go_num,by rw[K.o];exact D.Yh a,T.Yh a⟩
      omega
  ·have e:k=w.Yt.length:=(by omega);subst e;go_wp2;go_end0;exact⟨rfl,D,T⟩
theorem SV:(prog.info? 158).map (fun i=>(i.zero,i.size,i.bytes))=some (some (agg #[int i64 0,string ⟨#[]⟩,slice none 0 0,slice none 0 0,string ⟨#[]⟩,int i64 0,int i64 0,int i64 0]),8,112):=by kernel_rfl
theorem Rg:(prog.info? 229).map (fun i=>(i.zero,i.size,i.bytes))=some (some (agg #[string ⟨#[]⟩,string ⟨#[]⟩,int i64 0,int i64 0]),4,48):=by kernel_rfl
theorem wl(h:∀j,j<10+2*v.length->z5 j=b j):ny v z5=ny v b:=by
 unfold ny;rw[Wq,Wq];congr 1;apply V6;intro p a;have:p.2<v.length:=by
  have:=List.snd_lt_add_of_mem_zipIdx a;omega
 rw[h _ (by omega),h _ (by omega)]
theorem Of(o:aB yg N (aD M)):aB yg N (aD []):=by
 have:=o.taken 0;simpa using this
theorem Oh(o:aB yg N (iC ya)):aB yg N (iC []):=by
 rcases o.Ys with ⟨f,m,_⟩ | ⟨g,b,c,i,j,d,e,l⟩
 ·subst f;exact⟨by simp[iC,oP],Us ⟨by simp[iC],by simp[iC]⟩⟩
 ·obtain⟨k,a⟩:=N;simp only at c j d e;subst c;exact⟨by simp[iC,oP],Uo ⟨g,a,b,rfl,UF _,i,by simp[iC],d,e,by simp[iC,oP]⟩⟩
theorem aV.addst{w1:World}(O:aV a D g z4 y9 l S)(C:ae [] a z6)(ho:z4.length=z0)(s:St)(z y:Hd)(J I:Nat)(X:z.Yv=some J)(V:y.Yv=some I)(W:a.heap.size<=J)(U:a.heap.size<=I)(E:J≠I)(os:aB z6 z (aD s.Yc))(op:aB z6 y (iC s.Yn))(v o:Nat)(Y:aB w1 ⟨some ⟨v,0,none⟩,o⟩ ⟨(jt l.Yt S).e,(jt l.Yt S).size,(jt l.Yt S).n+1,(jt l.Yt S).xs++LB s z y⟩)(B:z6.grownBy w1 (S 6).Yv)(x:(S 6).Yv=some v∨z6.heap.size<=v) :
  w1.cell? ⟨D,z0+6,none⟩=some (slice (S 6).ao l.Yt.length (S 6).cap)/\w1.frozen? ⟨D,z0+6,none⟩=false /\
  Xr (∃M,aV (w1.setCell ⟨D,z0+6,none⟩ (slice (some ⟨v,0,none⟩) ((jt l.Yt S).n+1) o)) D g z4 y9 { l with Yt:=l.Yt++[s] } M /\
   aw D a S (w1.setCell ⟨D,z0+6,none⟩ (slice (some ⟨v,0,none⟩) ((jt l.Yt S).n+1) o)) M/\∀j,j<10->j≠6->M j=S j):=by
 have h:=O.Yh C;have K:=(B.block D h.lt (fun e=>h.off 6 e.symm)).trans h.Yv;refine⟨(ah K (z0+6)).trans (Ce z4 (cO l S) y9 z0 6 ho (by simp[cO])),am K _,?_⟩;have R:=fun {k} (K:gF S k)=>O.inlt K;have ac:=O.lt;obtain⟨d,w⟩:∃d,d=ie (ie S (10+2*l.Yt.length) z) (11+2*l.Yt.length) y:=⟨_,rfl⟩
 have p:∀j,j≠10+2*l.Yt.length->j≠11+2*l.Yt.length->d j=S j:=fun j b c=>by rw[w,b9 _ _ _ _ c,b9 _ _ _ _ b]
 have G:d (10+2*l.Yt.length)=z:=by rw[w,b9 _ _ _ _ (by omega),dH]
 have H:d (11+2*l.Yt.length)=y:=by rw[w,dH]
 have e4:ny l.Yt d=ny l.Yt S:=wl _ _ _ (fun j t=>p j (by omega) (by omega));clear w;have el:cO l d=cO l S:=by
  unfold cO;rw[p 0 (by omega) (by omega),p 1 (by omega) (by omega),p 2 (by omega) (by omega),p 3 (by omega) (by omega),p 4 (by omega) (by omega),p 5 (by omega) (by omega),p 6 (by omega) (by omega),p 7 (by omega) (by omega),p 8 (by omega) (by omega),p 9 (by omega) (by omega)]
 have er:∀j,a8 l d j=a8 l S j:=by
  intro j;unfold a8;split <;> first | rfl | (simp only[jt,e4])
 have F:∀j,(d j).Yv=(S j).Yv∨((d j).Yv=some J/\j=10+2*l.Yt.length)∨((d j).Yv=some I/\j=11+2*l.Yt.length):=by
  intro j;by_cases b:j=10+2*l.Yt.length
  ·subst b;rw[G];exact Uo (Us ⟨X,rfl⟩)
  ·by_cases c:j=11+2*l.Yt.length
   ·subst c;rw[H];exact Uo (Uo ⟨V,rfl⟩)
   ·rw[p j b c];exact Us rfl
 have D1:aV z6 D g z4 y9 l d:=by
  refine⟨by rw[el];exact h.Yv,?_,?_,?_⟩
  ·intro j;rw[er j];by_cases b:j=10+2*l.Yt.length
   ·subst b;rw[G];have:a8 l S (10+2*l.Yt.length)=aD []:=by
     rw[show 10+2*l.Yt.length=2*l.Yt.length+10 by omega];simp[a8,inner,symsAt]
    rw[this];exact Of z6 z _ os
   ·by_cases c:j=11+2*l.Yt.length
    ·subst c;rw[H];have:a8 l S (11+2*l.Yt.length)=iC []:=by
      rw[show 11+2*l.Yt.length=(2*l.Yt.length+1)+10 by omega];have q:(2*l.Yt.length+1) % 2=1:=by omega
      have Z:(2*l.Yt.length+1) / 2=l.Yt.length:=(by omega);simp[a8,inner,uu,q,Z]
     rw[this];exact Oh z6 y _ op
    ·rw[p j b c];exact h.YF j
  ·intro i j Q;have f:∀i k,(S i).Yv=some k->k<a.heap.size:=fun i k e=>R ⟨i,e⟩;rcases F i with b | ⟨b,ai⟩ | ⟨b,ai⟩ <;> rcases F j with c | ⟨c,cj⟩ | ⟨c,cj⟩ <;> rw[b,c]
   ·exact h.apart i j Q
   ·cases e:(S i).Yv with
    | none=>exact Us rfl
    | some k=>right;intro r;cases r;have:=f i _ e;omega
   ·cases e:(S i).Yv with
    | none=>exact Us rfl
    | some k=>right;intro r;cases r;have:=f i _ e;omega
   ·right;intro r;have:=f j _ r.symm;omega
   ·omega
   ·right;intro r;cases r;exact E rfl
   ·right;intro r;have:=f j _ r.symm;omega
   ·right;intro r;cases r;exact E rfl
   ·omega
  ·intro j;rcases F j with b | ⟨b,_⟩ | ⟨b,_⟩ <;> rw[b]
   ·exact h.off j
   ·intro e;cases e;omega
   ·intro e;cases e;omega
 have T1:aw D a S z6 d:=by
  refine⟨C.toP (by simp),?_⟩;rintro k ⟨j,t⟩;rcases F j with b | ⟨b,_⟩ | ⟨b,_⟩ <;> rw[b]at t
  ·exact Us ⟨j,t⟩
  ·cases t;exact Uo W
  ·cases t;exact Uo U
 have h6:d 6=S 6:=p 6 (by omega) (by omega);have N:a8 { l with Yt:=l.Yt++[s] } d 6=⟨(jt l.Yt S).e,(jt l.Yt S).size,(jt l.Yt S).n+1,(jt l.Yt S).xs++LB s z y⟩:=by
  simp only[a8,jt,LN,G,H,e4,List.length_append,List.length_cons,List.length_nil]
 have P:=D1.putG (d':={ l with Yt:=l.Yt++[s] }) z0 6 ho 6 (by omega) ⟨some ⟨v,0,none⟩,o⟩ (by rw[N];exact Y) (by rw[h6];exact B)
  (by
    rcases x with e | e
    ·exact Uo (Us (by rw[h6];exact e.symm))
    ·exact Uo (Uo ⟨v,rfl,e⟩))
  (by
   intro j t;by_cases b:j=10+2*l.Yt.length
   ·subst b;rw[G];have:a8 { l with Yt:=l.Yt++[s] } d (10+2*l.Yt.length)=aD s.Yc:=by
     rw[show 10+2*l.Yt.length=2*l.Yt.length+10 by omega];simp[a8,inner,symsAt]
    rw[this];exact os
   ·by_cases c:j=11+2*l.Yt.length
    ·subst c;rw[H];have:a8 { l with Yt:=l.Yt++[s] } d (11+2*l.Yt.length)=iC s.Yn:=by
      rw[show 11+2*l.Yt.length=(2*l.Yt.length+1)+10 by omega];have q:(2*l.Yt.length+1) % 2=1:=by omega
      have Z:(2*l.Yt.length+1) / 2=l.Yt.length:=(by omega);simp[a8,inner,uu,q,Z]
     rw[this];exact op
    ·have:a8 { l with Yt:=l.Yt++[s] } d j=a8 l d j:=by
      match j,t,b,c with
      | 0,_,_,_=>rfl
      | 1,_,_,_=>rfl
      | 2,_,_,_=>rfl
      | 3,_,_,_=>rfl
      | 4,_,_,_=>rfl
      | 5,_,_,_=>rfl
      | 6,t,_,_=>exact absurd rfl t
      | 7,_,_,_=>rfl
      | 8,_,_,_=>rfl
      | 9,_,_,_=>rfl
      | m+10,_,b,c =>
       have hm:m / 2≠l.Yt.length:=(by omega);have e:(l.Yt++[s])[m / 2]?=l.Yt[m / 2]?:=by
        rcases XY (m / 2) l.Yt.length with L | L
        ·exact Uv L
        ·rw[Ur L,UT L,UT (by simp;omega)]
       simp only[a8,inner,symsAt,uu,e]
     rw[this];exact D1.YF j)
  (slice (some ⟨v,0,none⟩) ((jt l.Yt S).n+1) o) (by omega) (by
   rw[el];have u:∀j,j<10->j≠6->ie d 6 (⟨some ⟨v,0,none⟩,o⟩:Hd) j=S j:=fun j t T=>by rw[b9 _ _ _ _ T];exact p j (by omega) (by omega)
   unfold cO;rw[u 0 (by omega) (by omega),u 1 (by omega) (by omega),u 2 (by omega) (by omega),u 3 (by omega) (by omega),u 4 (by omega) (by omega),u 5 (by omega) (by omega),u 7 (by omega) (by omega),u 8 (by omega) (by omega),u 9 (by omega) (by omega),dH];simp[jt])
 exact⟨_,P.1,T1.trans P.2,fun j t T=>by rw[b9 _ _ _ _ T];exact p j (by omega) (by omega)⟩
theorem If:∀u∈oP ya,u.oneCell'=true:=by
 intro u a;simp only[oP,List.mem_flatMap]at a;obtain⟨p,_,a⟩:=a;simp only[sD,List.mem_cons,List.not_mem_nil,or_false]at a;rcases a with rfl | rfl | rfl | rfl <;> rfl
theorem QM(a b:Hd):∀u∈LB yf a b,u.oneCell'=true:=by
 intro u c;simp only[LB,List.mem_cons,List.not_mem_nil,or_false]at c;rcases c with rfl | rfl | rfl | rfl | rfl | rfl | rfl | rfl <;> rfl
theorem yM(s f:Xs)(l c:Int)(a:World)(h:aV a n i d o w b)(ho:d.length=H)(hs:gC w 100000000) :
  Calls prog 269 #[pointer (some ⟨n,H+6,none⟩),agg #[int i64 k,string s,slice (b 8).ao w.Yc.length (b 8).cap,slice (b 9).ao w.Yn.length (b 9).cap,string f,int i64 l,int i64 c,int i64 0]] a fun e w' =>
   e=returned (tuple #[])/\∃Y,aV w' n i d o { w with Yt:=w.Yt++[⟨k,s,w.Yc,w.Yn,⟨f,l,c⟩,0⟩] } Y/\aw n a b w' Y/\∀j,j<10->j≠6->Y j=b j:=by
 obtain⟨i0,hi,a7,az,ba⟩:=UC jN;obtain⟨i1,ap,a5,ax,a6⟩:=UC Rg;obtain⟨i2,a1,a2,a3,a4⟩:=UC SV;have bf:=hs.Yc;have bg:=hs.Yn;have be:=hs.Yt;have m1:=fun a=>dV (P:=prog) a 61 9 i0 _ underlying61 hi a7 w.Yc.length 1 az (by rw[ba];omega) (by omega);have m2:=fun a=>dV (P:=prog) a 156 229 i1 _ underlying156 ap a5 w.Yn.length 4 ax (by rw[a6];omega) (by omega);obtain⟨E,C⟩:∃mc,mc=madeCells (string ⟨#[]⟩).cells (w.Yc.length*1):=⟨_,rfl⟩
 obtain⟨N,D⟩:∃mc,mc=madeCells (agg #[string ⟨#[]⟩,string ⟨#[]⟩,int i64 0,int i64 0]).cells (w.Yn.length*4):=⟨_,rfl⟩
 have z1:E.size=w.Yc.length*1:=by rw[C,VH]
 have z2:N.size=w.Yn.length*4:=by rw[D,VH]
 rw[<-C]at m1;rw[<-D]at m2;clear C D;obtain⟨bx,t⟩:∃bx:Array Value,bx=#[int i64 k,string s,slice (b 8).ao w.Yc.length (b 8).cap,slice (b 9).ao w.Yn.length (b 9).cap,string f,int i64 l,int i64 c,int i64 0]:=⟨_,rfl⟩
 obtain⟨O,z⟩:∃O,O=(a.alloc (.cells #[int i64 k,string s,slice (b 8).ao w.Yc.length (b 8).cap,slice (b 9).ao w.Yn.length (b 9).cap,string f,int i64 l,int i64 c,int i64 0] 158)).alloc (.cells E 9):=⟨_,rfl⟩
 have K2:ae [] a O:=by rw[z];exact(bM.alloc _).alloc _
 have D2:=h.Yh K2;have Z2:O.heap.size=a.heap.size+2:=by rw[z];simp
 have B2:O.heap[a.heap.size]?=some (.cells bx 158):=by
  rw[z,t];exact(bM.alloc _).get (Ui _ _) (by simp)
 have G2:O.heap[a.heap.size+1]?=some (.cells E 9):=by
  rw[z];have:=Ui (a.alloc (.cells #[int i64 k,string s,slice (b 8).ao w.Yc.length (b 8).cap,slice (b 9).ao w.Yn.length (b 9).cap,string f,int i64 l,int i64 c,int i64 0] 158)) (.cells E 9);simpa using this
 have ac:Xr _:=z.symm;have ag:Xr ((prog.info? (aD w.Yc).e).map (·.size)=some (aD w.Yc).size):=cM (by simp[aD,hi,az]);have ai:Xr ((prog.info? (iC w.Yn).e).map (·.size)=some (iC w.Yn).size):=cM (by simp[iC,ap,ax]);clear z;go_enter func269,ntmps269;go_upto_region 2 with fail
 rw[ac.o];have b2:O.cell? ⟨a.heap.size,2,none⟩=some (slice (b 8).ao w.Yc.length (b 8).cap):=by rw[ah B2,t];rfl
 clear ac m1;obtain⟨w3,al,R,T,M⟩:=rC (P:=prog) O 61 61 3 (a.heap.size+1) w.Yc.length (b 8) (aD w.Yc) E 9 underlying61 ag.o G2 (D2.YF 8) z1 (mQ _);simp only[aD]at al R;have K3:ae [] a w3:=((K2.mono (S':=[a.heap.size+1]) (by simp)).trans T).mono (by simp);have B3:=T.get B2 (by simp);rw[Z2]at M;have b3:w3.cell? ⟨a.heap.size,3,none⟩=some (slice (b 9).ao w.Yn.length (b 9).cap):=by rw[ah B3,t];rfl
 clear G2 B2 D2 T K2;obtain⟨Q,A⟩:∃Q,Q=w3.alloc (.cells N 229):=⟨_,rfl⟩
 have K4:ae [] a Q:=by rw[A];exact K3.alloc _
 have U:=fg A.symm;have D4:=h.Yh K4;have B4:=U.get B3 (by simp);have S4:=U.get R (by simp);have G4:Q.heap[a.heap.size+2]?=some (.cells N 229):=by rw[A,<-M];exact Ui _ _
 have ad:Xr _:=A.symm;have Z4:Q.heap.size=a.heap.size+3:=by rw[A];simp[M]
 clear A U;go_upto_region 4 with fail
 clear al b2;rw[ad.o];have b4:Q.cell? ⟨a.heap.size,3,none⟩=some (slice (b 9).ao w.Yn.length (b 9).cap):=by rw[ah B4,t];rfl
 clear ad m2 b3;obtain⟨X,an,S,K,bc⟩:=rC (P:=prog) Q 156 156 3 (a.heap.size+2) w.Yn.length (b 9) (iC w.Yn) N 229 underlying156 ai.o G4 (D4.YF 9) z2 (If _);simp only[iC]at an S;have K5:ae [] a X:=((K4.mono (S':=[a.heap.size+2]) (by simp)).trans K).mono (by simp);have W:=K.get B4 (by simp);have S5:=K.get S4 (by simp);rw[Z4]at bc;clear G4 B4 D4 K K4 S4;have aS:X.cell? ⟨a.heap.size,2,none⟩=some (slice (b 8).ao w.Yc.length (b 8).cap):=by rw[ah W,t];rfl
 have aT:X.cell? ⟨a.heap.size,3,none⟩=some (slice (b 9).ao w.Yn.length (b 9).cap):=by rw[ah W,t];rfl
 have a0:X.cell? ⟨a.heap.size,7,none⟩=some (int i64 0):=by rw[ah W,t];rfl
 have fx:=am W;obtain⟨F,B⟩:∃F,F=((X.setCell ⟨a.heap.size,2,none⟩ (slice (some ⟨a.heap.size+1,0,none⟩) w.Yc.length w.Yc.length)).setCell ⟨a.heap.size,3,none⟩ (slice (some ⟨a.heap.size+2,0,none⟩) w.Yn.length w.Yn.length)).setCell ⟨a.heap.size,7,none⟩ (int i64 0):=⟨_,rfl⟩
 have af:Xr _:=B.symm;have K8:ae [] a F:=by rw[B];exact((K5.sr1 (Ue _) _).sr1 (Ue _) _).sr1 (Ue _) _
 have V:ae [a.heap.size] X F:=by rw[B];exact(((ae.refl _ _).sl1 _).sl1 _).sl1 _
 have B8:F.heap[a.heap.size]?=some (.cells (LB ⟨k,s,w.Yc,w.Yn,⟨f,l,c⟩,0⟩ ⟨some ⟨a.heap.size+1,0,none⟩,w.Yc.length⟩ ⟨some ⟨a.heap.size+2,0,none⟩,w.Yn.length⟩).toArray 158):=by
  rw[B,ab (ab (ab W _ _) _ _),t];rfl
 have S8:=V.get S5 (by simp);have P8:=V.get S (by simp);clear B V S5 S W;go_upto_region 8 with fail
 rw[af.o];clear af an aS aT a0 fx b4 K5 t R M B3 K3;have y:=fun j v (hv:(LB ⟨k,s,w.Yc,w.Yn,⟨f,l,c⟩,0⟩ ⟨some ⟨a.heap.size+1,0,none⟩,w.Yc.length⟩ ⟨some ⟨a.heap.size+2,0,none⟩,w.Yn.length⟩)[j]?=some v)=>(ah B8 j).trans (by simpa using hv);have y0:=y 0 _ rfl;have y1:=y 1 _ rfl;have y2:=y 2 _ rfl;have y3:=y 3 _ rfl;have y4:=y 4 _ rfl;have y5:=y 5 _ rfl;have y6:=y 6 _ rfl;have y7:=y 7 _ rfl;simp only at y0 y1 y2 y3 y4 y5 y6 y7;clear y;have D8:=h.Yh K8;have q6:=D8.cellAt H ho 6 (by omega);simp only[cO,List.getElem?_cons_succ,List.getElem?_cons_zero]at q6;have bd:=D8.lt;obtain⟨m,q⟩:∃m:List Value,m=LB ⟨k,s,w.Yc,w.Yn,⟨f,l,c⟩,0⟩ ⟨some ⟨a.heap.size+1,0,none⟩,w.Yc.length⟩ ⟨some ⟨a.heap.size+2,0,none⟩,w.Yn.length⟩:=⟨_,rfl⟩
 obtain⟨G,I⟩:∃G,G=(F.alloc (.cells #[int i64 k,string s,slice (some ⟨a.heap.size+1,0,none⟩) w.Yc.length w.Yc.length,slice (some ⟨a.heap.size+2,0,none⟩) w.Yn.length w.Yn.length,string f,int i64 l,int i64 c,int i64 0] 158)).drew:=⟨_,rfl⟩
 have K9:ae [] F G:=by rw[I];exact(bM.alloc _).drew
 have G9:G.heap[F.heap.size]?=some (.cells m.toArray 158):=by rw[I,q];exact Ui _ _
 have O1:aB G ⟨some ⟨a.heap.size+1,0,none⟩,w.Yc.length⟩ (aD w.Yc):=aB.made (r:=aD w.Yc) (K9.get S8 (by simp)) (EK _) (by simp only[aD];unfold maxLen;omega);have O2:aB G ⟨some ⟨a.heap.size+2,0,none⟩,w.Yn.length⟩ (iC w.Yn):=aB.made (r:=iC w.Yn) (K9.get P8 (by simp)) (Id _) (by simp only[iC];unfold maxLen;omega);have D9:Xr (aV G n i d o w b):=D8.Yh K9;have s2:Xr (∀j u,m[j]?=some u->G.cell? ((⟨F.heap.size,0,none⟩:Addr).add j)=some u):=by
  intro j u hj;rw[bS,ah G9];simpa using hj
 have s3:Xr (∀u∈m,u.oneCell'=true):=by rw[q];exact QM _ _ _
 have s4:Xr ((jt w.Yt b).n+1<=maxLen):=by show _<=_;simp only[jt];unfold maxLen;omega
 have s5:Xr (((jt w.Yt b).n+1)*112<=140737488355328):=by show _<=_;simp only[jt];omega
 have AF:=fun(g x:Nat) (w1:World) (L:aB w1 ⟨some ⟨g,0,none⟩,x⟩ ⟨(jt w.Yt b).e,(jt w.Yt b).size,(jt w.Yt b).n+1,(jt w.Yt b).xs++m⟩) J p=>h.addst (K8.trans K9) ho ⟨k,s,w.Yc,w.Yn,⟨f,l,c⟩,0⟩ ⟨some ⟨a.heap.size+1,0,none⟩,w.Yc.length⟩ ⟨some ⟨a.heap.size+2,0,none⟩,w.Yn.length⟩ (a.heap.size+1) (a.heap.size+2) rfl rfl (by omega) (by omega) (by omega) O1 O2 g x (w1:=w1) (by rw[<-q];exact L) J p;have Z:Xr _:=AF;have ar:Xr (m.length=1*(jt w.Yt b).size):=cM (by rw[q];rfl);rw[I]at D9 s2 Z;clear AF O1 O2 G9 K9 I G q P8 S8 B8;go_region_law (refine cv rfl (.tmp 31) (.tmp 33) 74 rfl i2 (agg #[int i64 0,string ⟨#[]⟩,slice none 0 0,slice none 0 0,string ⟨#[]⟩,int i64 0,int i64 0,int i64 0]) 112 (b 6) (jt w.Yt b) underlying74 a1 a2 a3 a4 rfl (XD 7) (by simp[Act.eval] <;> rfl) (D9.o.YF 6) ⟨F.heap.size,0,none⟩ 1 1 m (by simp[Act.eval]) ar.o s2.o s3.o UA s4.o s5.o ?_;intro g x w1 L J p;obtain⟨k5,f5,HP⟩:=Z.o g x w1 L J (by simpa using p);clear L J p)
 all_goals go_wp2
 all_goals go_end0
 all_goals
  obtain⟨Y,P1,P2,P3⟩:=HP.o;exact⟨rfl,Y,P1,P2,P3⟩
def nM(d:Db)(p:Pl):Db:={ d with Yt:=d.Yt++[⟨d.Yw,d.Yx,d.Yc,d.Yn,p,0⟩] }
def oe(d:Db):Db:=if(d.Yw==2)=true/\1<d.Yc.length then { d with Yo:=d.Yo++[d.Yc.getD 1 ⟨#[]⟩] } else d
def aW(d:Db)(p:Pl):Db :=
 if(d.Yw==7)=true then { d with Ye:=d.Ye++d.Yc }
 else if(d.Yw==8)=true then eG d d.Yc.length
 else nM (oe d) p
theorem Ip(d:aV a D g z4 y9 l S)(i:z4.length=z0)(e:S 8=yd 8)(f:S 9=yd 9) :
  a.cell? ⟨D,z0+8,none⟩=some (int i64 l.Yw)/\a.cell? ⟨D,z0+9,none⟩=some (string l.Yx)/\a.cell? ⟨D,z0+10,none⟩=some (slice (yd 8).ao l.Yc.length (yd 8).cap)/\a.cell? ⟨D,z0+12,none⟩=some (slice (yd 9).ao l.Yn.length (yd 9).cap):=by
 obtain⟨n,o,p,q,r,s,t,u,k,m,b,j,c⟩:=d.cells z0 i;rw[e]at b;rw[f]at c;exact⟨k,m,b,c⟩
theorem Il{f:Xs}{l c:Int}(T:aw D a S z6 yd)(B:a.heap[g]?=some (.cells #[string f,int i64 l,int i64 c] 36))(d:g≠D)(i:∀k,gF S k->k≠g) :
  z6.cell? ⟨g,0,none⟩=some (string f)/\z6.cell? ⟨g,1,none⟩=some (int i64 l)/\z6.cell? ⟨g,2,none⟩=some (int i64 c):=by
 have b:=T.1.get B (by rintro (e | e);exact d e;exact i _ e rfl);refine⟨?_,?_,?_⟩ <;> rw[ah b] <;> rfl
theorem Dk(c:Int)(g:World)(h:aV g n i d o w b)(l:d.length=H)(hm:0<w.Yc.length)(a:gC w 10000000) :
  Calls prog 253 #[pointer (some ⟨n,H,none⟩),agg #[string x,int i64 k,int i64 c]] g fun e f=>e=returned (tuple #[])/\∃H',aV f n i d o (aW w ⟨x,k,c⟩) H'/\aw n g b f H':=by
 obtain⟨W,Q⟩:∃W,W=g.alloc (.cells #[string x,int i64 k,int i64 c] 36):=⟨_,rfl⟩
 have K:=fg Q.symm;have D:=h.Yh K;have P:Xr _:=Q.symm;have B:=fE Q.symm;have t:g.heap.size≠n:=by have:=h.lt;omega
 have I:Xr (∀m,gF b m->m≠g.heap.size):=fun m V=>by have:=h.inlt V;omega
 have v:=(show Xr (gC w 100000000) from⟨by have:=a.Yk;omega,by have:=a.Ye;omega,by have:=a.Yf;omega,by have:=a.Yl;omega,by have:=a.Yo;omega,by have:=a.Yy;omega,by have:=a.Yt;omega,by have:=a.rbl;omega,by have:=a.Yc;omega,by have:=a.Yn;omega⟩);clear Q;obtain⟨q0,q1,q2,q3,q4,q5,q6,q7,q8,q9,p,z,A⟩:=D.cells H l;clear q0 q1 q2 q3 q4 q5 q6 q7 z;have an:=a.Yc;cases R:(w.Yw==7)
 ·cases Y:(w.Yw==8)
  ·by_cases L:(w.Yw==2)=true/\1<w.Yc.length
   ·have q:Xr (aW w ⟨x,k,c⟩=nM { w with Yo:=w.Yo++[w.Yc.getD 1 ⟨#[]⟩] } ⟨x,k,c⟩):=(by show aW w ⟨x,k,c⟩=_;unfold aW oe;rw[R,Y,Uf L];simp);obtain⟨M,u⟩:=L;have hx:w.Yc.getD 1 ⟨#[]⟩=w.Yc[1]:=(by rw[Uc,Ub u];rfl);rw[hx]at q;have y:aB W (b 8) (aD w.Yc):=D.YF 8;rcases y.Ys with ⟨_,h0,_⟩ | ⟨g8,ag,e8,-,ai,-⟩
    ·have:w.Yc.length=0:=h0;omega
    ·have c1:=y.cell e8 1 (string w.Yc[1]) (uJ w.Yc 1 u);rw[e8]at p;have ap:=a.Yo;clear y hx;generalize w.Yc[1]=af at *;go_enter func253,ntmps253;(go_upto_region 1 with fail);rw[P.o];(go_upto_region 3 with fail);go_region_with (go_at_call 268;refine(Bi n i H d o w b af _ (by exact D.Yh bM.drew) l (by omega)).mono ?_;rintro e N ⟨rfl,j,C,r⟩)
     all_goals
      have s:=I;have O:=r.1.get (by exact B) (by rintro (e | e);exact t e;exact s.o _ e rfl);have al:=aj B;have J:Xr (∀m,gF j m->m≠g.heap.size):=fun m V=>by
       rcases r.2 m V with U | U
       ·exact s.o m U
       ·rintro rfl;have h2:W.heap.size<=g.heap.size:=U;omega
      have T:Xr _:=(r.first bM.drew).first K;clear q8 q9 p A c1 r D B;obtain⟨q0,q1,q2,q3,q4,q5,q6,q7,q8,q9,p,z,A⟩:=C.cells H l;clear q0 q1 q2 q3 q4 q5 q6 q7 z;simp only at q8 q9 p A;have Z:N.cell? ⟨g.heap.size,0,none⟩=some (string x):=(by rw[ah O];rfl);have p1:N.cell? ⟨g.heap.size,1,none⟩=some (int i64 k):=(by rw[ah O];rfl);have p2:N.cell? ⟨g.heap.size,2,none⟩=some (int i64 c):=(by rw[ah O];rfl);have X:=(show Xr (gC { w with Yo:=w.Yo++[af] } 100000000) from⟨by have:=a.Yk;simp only;omega,by have:=a.Ye;simp only;omega,by have:=a.Yf;simp only;omega,by have:=a.Yl;simp only;omega,by simp;omega,by have:=a.Yy;simp only;omega,by have:=a.Yt;simp only;omega,by have:=a.rbl;simp only;omega,by have:=a.Yc;simp only;omega,by have:=a.Yn;simp only;omega⟩)
     all_goals go_upto_region 4 with fail
     all_goals go_region_held3 (fun f=>f.cell? ⟨n,H+8,none⟩=some (int i64 w.Yw)/\f.cell? ⟨n,H+9,none⟩=some (string w.Yx)/\f.cell? ⟨n,H+10,none⟩=some (slice (j 8).ao w.Yc.length (j 8).cap)/\f.cell? ⟨n,H+12,none⟩=some (slice (j 9).ao w.Yn.length (j 9).cap)/\f.cell? ⟨g.heap.size,0,none⟩=some (string x)/\f.cell? ⟨g.heap.size,1,none⟩=some (int i64 k)/\f.cell? ⟨g.heap.size,2,none⟩=some (int i64 c)) (go_keep) (first | (go_at_call 269;refine(yM n i H d o { w with Yo:=w.Yo++[af] } j w.Yw w.Yx x k c _ (by exact C.Yh bM.drew) l X.o).mono ?_;rintro e w9 ⟨rfl,S,E,G,F⟩;obtain⟨r8,r9,ac,ad⟩:=Ip E l (F 8 (by omega) (by omega)) (F 9 (by omega) (by omega));obtain⟨Z,p1,p2⟩:=Il G (by exact O) t J.o))
     all_goals go_wp2
     all_goals go_end0
     all_goals exact⟨rfl,S,by rw[q.o];exact E,aw.trans T.o (G.first bM.drew)⟩
   ·have q:Xr (aW w ⟨x,k,c⟩=nM w ⟨x,k,c⟩):=(by show aW w ⟨x,k,c⟩=_;unfold aW oe;rw[R,Y,Ud L];simp);cases M:(w.Yw==2)
    rotate_left
    focus
     have u:¬1<w.Yc.length:=fun hh=>L ⟨M,hh⟩
    all_goals
     clear L;go_enter func253,ntmps253;(go_upto_region 1 with fail);rw[P.o];(go_upto_region 4 with fail);obtain⟨Z,p1,p2⟩:=xy B;go_region_held3 (fun f=>f.cell? ⟨n,H+8,none⟩=some (int i64 w.Yw)/\f.cell? ⟨n,H+9,none⟩=some (string w.Yx)/\f.cell? ⟨n,H+10,none⟩=some (slice (b 8).ao w.Yc.length (b 8).cap)/\f.cell? ⟨n,H+12,none⟩=some (slice (b 9).ao w.Yn.length (b 9).cap)/\f.cell? ⟨g.heap.size,0,none⟩=some (string x)/\f.cell? ⟨g.heap.size,1,none⟩=some (int i64 k)/\f.cell? ⟨g.heap.size,2,none⟩=some (int i64 c)) (go_keep) (first | (go_at_call 269;refine(yM n i H d o w b w.Yw w.Yx x k c _ (by exact D.Yh bM.drew) l v.o).mono ?_;rintro e w9 ⟨rfl,S,E,G,F⟩;obtain⟨r8,r9,ac,ad⟩:=Ip E l (F 8 (by omega) (by omega)) (F 9 (by omega) (by omega));obtain⟨Z,p1,p2⟩:=Il G (by exact B) t I.o))
     all_goals go_wp2
     all_goals go_end0
     all_goals exact⟨rfl,S,by rw[q.o];exact E,(G.first bM.drew).first K⟩
  ·have q:Xr (aW w ⟨x,k,c⟩=eG w w.Yc.length):=(by show aW w ⟨x,k,c⟩=_;unfold aW;rw[R,Y];simp);go_enter func253,ntmps253;(go_upto_region 1 with fail);rw[P.o];go_wp2_with fail;go_region_with (go_at_call 267;refine(uS n i H d o w b _ (by exact D.Yh bM.drew) l hm v.o).mono ?_;rintro e N ⟨rfl,j,C,r⟩)
   all_goals go_wp2
   all_goals go_end0
   all_goals exact⟨rfl,j,by rw[q.o];exact C,(r.first bM.drew).first K⟩
 ·have q:Xr (aW w ⟨x,k,c⟩={ w with Ye:=w.Ye++w.Yc }):=by show aW w ⟨x,k,c⟩=_;unfold aW;rw[R];simp
  go_enter func253,ntmps253;go_upto_region 1 with fail
  rw[P.o];go_wp2_with fail;go_region_with (go_at_call 266;refine(uR n i H d o w b _ (by exact D.Yh bM.drew) l hm v.o).mono ?_;rintro e N ⟨rfl,j,C,r⟩)
  all_goals go_wp2
  all_goals go_end0
  all_goals exact⟨rfl,j,by rw[q.o];exact C,(r.first bM.drew).first K⟩
end Go.Proofs.YtnbhnocdhbcbcaaGreat
