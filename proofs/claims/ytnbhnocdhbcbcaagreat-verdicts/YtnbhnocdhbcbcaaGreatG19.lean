import Derived.BigQuiet
import Derived.Deep.RegionLaw
import Derived.Test.YtnbhnocdhbcbcaaGreatG18
namespace Go.Proofs.YtnbhnocdhbcbcaaGreat
open Go.RowKit Tryz
open Value IntKind Ending
set_option maxHeartbeats 0
variable{D:List cW}{x:Nat}{v z3:World}{z4:Option Addr}{M:Nat->Int}{k:List ByteArray}{zb:Hd}{zt:ByteArray}(N T:Nat)(d l:List ByteArray)(y0:Option Addr)(y1:Nat)(y:List Tk)(b:List cW)(i:Option Addr)(L:Nat)(f:List Sm)(z2:Option Addr)(s:Int)(t:ByteArray)(c z0:Int)(S:Nat)(a:World)(H:List Nat)(z7:Option Addr)(I:List ByteArray)(n:Nat)
def Q1:cW:=⟨0,0,0,⟨#[]⟩,0,0⟩
def bK(P:List cW)(i:Nat):cW:=P.getD i Q1
theorem Ib(h:n<b.length):b[n]?=some (bK b n):=by
 unfold bK;rw[RT,RQ h];rfl
def vJ(P:List cW)(i:Nat):Bool:=((bK P i).ref == -1)
def gN(P:List cW):Int:=match (List.range P.length).find? (vJ P) with
 | some i=>i
 | none=>-1
theorem Jc(c:x<D.length)(h:vJ D x=true)(a:∀j,j<x->vJ D j=false):gN D=x:=by
 have e:(List.range D.length).find? (vJ D)=some x:=by
  rw[Tx];exact⟨h,Sd.2 c,fun j b=>by rw[a j b];rfl⟩
 unfold gN;rw[e]
theorem LZ(a:∀j,j<D.length->vJ D j=false):gN D=-1:=by
 have e:(List.range D.length).find? (vJ D)=none:=by
  rw[Tn];intro j b;rw[a j (Sd.1 b)];simp
 unfold gN;rw[e]
theorem EC:(gN b=-1/\∀j,j<b.length->(bK b j).ref≠-1)∨∃k,k<b.length/\gN b=(k:Int):=by
 unfold gN;cases h:(List.range b.length).find? (vJ b) with
 | none =>
  refine R4 ⟨rfl,fun j a e=>?_⟩;rw[Tn]at h;exact h j (Sd.2 a) (by unfold vJ;rw[e];rfl)
 | some i=>exact RZ ⟨i,Sd.1 (SU h),rfl⟩
theorem cG.step(h:cG v z4 6 lq D)(k:Nat)(b:k<D.length):∃g,z4=some ⟨g,0,none⟩/\g<v.heap.size/\v.cell? ⟨g,k*6,none⟩=some (int i64 (bK D k).ref)/\v.cell? ⟨g,k*6+1,none⟩=some (int i64 ((bK D k).back:Nat))/\v.cell? ⟨g,k*6+2,none⟩=some (int i64 ((bK D k).need:Nat)) /\
  v.cell? ⟨g,k*6+3,none⟩=some (string (bK D k).file)/\v.cell? ⟨g,k*6+4,none⟩=some (int i64 (bK D k).line)/\v.cell? ⟨g,k*6+5,none⟩=some (int i64 (bK D k).col):=by
 obtain⟨g,e,a,c⟩:=h k _ (Ib D k b);exact⟨g,e,a,c 0 _ rfl,c 1 _ rfl,c 2 _ rfl,c 3 _ rfl,c 4 _ rfl,c 5 _ rfl⟩
set_option maxRecDepth 100000
theorem Jb(u:cG a i 6 lq b)(D:b.length<=100000000) :
  Calls prog 131 #[agg #[slice i b.length L,int i64 s,string t,int i64 c,int i64 z0]] a fun e A=>e=returned (int i64 (gN b))/\aa [] a A:=by
 obtain⟨W,n⟩:∃W,Hid (a.alloc (.cells #[slice i b.length L,int i64 s,string t,int i64 c,int i64 z0] 122)=W):=⟨_,rfl⟩
 have p:=fY n.out;have d:Hid _:=fN n.out;have w:Hid _:=u.Wj d.out;obtain⟨F,-⟩:=nR p;have E:=ae p;clear u;go_enter func131,ntmps131;go_upto_region 1 with fail
 rw[n.out];go_wp2
 go_loopg [3] b.length (fun g z wr=>∃k:Nat,k<=b.length/\g=b.length-k/\z=int i64 k/\Hid (∀j,j<k->vJ b j=false)/\wr=W)
 case atStart=>exact⟨0,by omega,rfl,rfl,(fun j y=>by omega),rfl⟩
 case round =>
  obtain⟨k,C,B,rfl,m,rfl⟩:=hrel;by_cases l:k<b.length
  ·have o:(k:Int)<b.length:=(by omega);obtain⟨g,rfl,x,G,-⟩:=cG.step w.out k l;have q:Hid (vJ b k=((bK b k).ref == -1)):=rfl;generalize (bK b k).ref=r at *;cases v:(r == -1)
   ·have f:Hid _:=eG m.out (by rw[q.out,v]);go_wp2;go_roundg (b.length-(k+1))
    case measure=>omega
    case rel=>exact⟨k+1,by omega,rfl,by go_num,f,rfl⟩
   ·have f:Hid (gN b=k):=Jc l (by rw[q.out,v]) m.out;go_wp2;go_ret;exact⟨au f.out.symm,d.out⟩
  ·have f:Hid (gN b=-1):=LZ (fun j y=>m.out j (by omega));have o:¬(k:Int)<b.length:=(by omega);go_wp2;go_ret;exact⟨au f.out.symm,d.out⟩
def nQ(rec:Nat->Int):Nat->Nat->Int
 | 0,b=>b
 | k+1,b=>if b=0 then -1 else if rec (b-1)<0 then -1 else nQ rec k (rec (b-1)).toNat
def Ae(P:List cW):Nat->Nat->Int
 | 0,_=>0
 | f+1,i=>nQ (Ae P f) (bK P i).need i
theorem NX(a:∀i,M i<=(i:Int))(k:Nat):∀b,nQ M k b<=(b:Int):=by
 induction k with
 | zero=>intro b;exact UX _
 | succ k c =>
  intro b;rw[nQ];split
  ·omega
  ·split
   ·omega
   ·have d:=c (M (b-1)).toNat;have e:=a (b-1);omega
theorem Af(f:Nat):∀i,Ae b f i<=(i:Int):=by
 induction f with
 | zero=>intro i;show(0:Int)<=i;omega
 | succ f a=>intro i;rw[Ae];exact NX a _ _
theorem wn{c:Nat->Int}(d:∀i,M i<=(i:Int))(k:Nat):∀b,(∀i,i<b->M i=c i)->nQ M k b=nQ c k b:=by
 induction k with
 | zero=>intro b _;rfl
 | succ k e =>
  intro b h;rw[nQ,nQ];by_cases a:b=0
  ·rw[RY a,RY a]
  ·rw[RU a,RU a,<-h (b-1) (by omega)];split
   ·rfl
   ·next f =>
    have:=d (b-1);exact e _ (fun i g=>h i (by omega))
theorem IA:∀f g i,i<f->i<g->Ae b f i=Ae b g i:=by
 intro f
 induction f with
 | zero=>intro g i h;omega
 | succ f a =>
  intro g i c d;cases g with
  | zero=>omega
  | succ g =>
   rw[Ae,Ae];exact wn (Af b f) _ _ (fun j e=>a g j (by omega) (by omega))
def dC(P:List cW)(i:Nat):Int:=Ae P (i+1) i
theorem pO:dC b n=nQ (dC b) (bK b n).need n:=by
 unfold dC;rw[Ae];exact wn (Af b n) _ _ (fun j a=>IA b n (j+1) j a (by omega))
theorem wA:dC b n<=(n:Int):=Af b _ n
def NN(P:List cW):Prop:=∀i,(bK P i).need<=100000
theorem um(hl:b.length<=100000000)(O:NN b)(f:Nat):∀(a:Nat) (w:World),a<f->a<b.length->cG w i 6 lq b ->
  Calls prog 133 #[agg #[slice i b.length L,int i64 s,string t,int i64 c,int i64 z0],int i64 a] w fun e w'=>e=returned (int i64 (dC b a))/\aa [] w w':=by
 induction f with
 | zero=>intro a w h;omega
 | succ f K =>
  intro a w S Q I;have A:Hid _:=K;clear K;obtain⟨W,B⟩:∃W,Hid (w.alloc (.cells #[slice i b.length L,int i64 s,string t,int i64 c,int i64 z0] 122)=W):=⟨_,rfl⟩
  have y:=fY B.out;have p:Hid _:=fN B.out;have H:Hid _:=I.Wj p.out;obtain⟨p0,-⟩:=nR y;have hz:=ae y;have T:(a:Int)<b.length:=by omega
  obtain⟨g,rfl,D,-,-,q2,-⟩:=cG.step H.out a Q;have M:Hid _:=y;have z:Hid _:=pO b a;have Y:=O a;generalize (bK b a).need=n at *;generalize dC b a=R at *;clear I y;go_enter func133,ntmps133;go_upto_region 1 with fail
  rw[B.out];go_wp2;clear q2 D
  go_loopg [6,7] n (fun m N kv wr=>∃(k v:Nat),k<=n/\m=n-k/\N=int i64 v/\kv=int i64 k/\v<=a/\Hid (R=nQ (dC b) (n-k) v)/\Hid (aa [] W wr))
  case atStart=>exact⟨0,a,by omega,rfl,rfl,rfl,by omega,z,aa.refl _ _⟩
  case round =>
   obtain⟨k,v,hk,hm,rfl,rfl,hb,j,u⟩:=hrel;by_cases X:k<n
   ·have U:(k:Int)<(n:Int):=(by omega);obtain⟨d,P⟩:∃d,n-k=d+1:=⟨n-k-1,by omega⟩
    have C:n-(k+1)=d:=(by omega);rw[P,nQ]at j;have l:Hid _:=p.out.trans u.out;cases v with
    | zero =>
     rw[RY rfl]at j;go_wp2;go_ret;exact⟨au j.out.symm,l.out⟩
    | succ q =>
     rw[RU (by omega),Tq]at j;have F:=u.out.get M.out (by simp);obtain⟨r0,r1,r2,r3,r4⟩:=nR F;have ac:=ae F;have G:Hid _:=(A.out q wr (by omega) (by omega) (cG.Wj H.out u.out));have V:=wA b q;have Z:((q:Int)+1==0)=false:=by simp;omega
     generalize dC b q=r at *;by_cases J:r<0
     ·rw[RY J]at j;go_wp2_with (go_at_call 133;refine R0 G.out ?_;rintro e w1 ⟨rfl,x⟩;have o:Hid _:=l.out.trans x;clear x);go_ret;exact⟨au j.out.symm,o.out⟩
     ·rw[RU J]at j;obtain⟨E,rfl⟩:∃E:Nat,r=E:=⟨r.toNat,by omega⟩
      rw[SO,<-C]at j;go_wp2_with (go_at_call 133;refine R0 G.out ?_;rintro e w1 ⟨rfl,x⟩;have o:Hid _:=u.out.trans x;clear x);go_roundg (n-(k+1))
      case measure=>omega
      case rel=>exact⟨k+1,E,by omega,rfl,rfl,by go_num,by omega,j,o⟩
   ·have e:k=n:=(by omega);subst e;rw[Td,nQ]at j;have l:Hid _:=p.out.trans u.out;go_wp2;go_ret;exact⟨au j.out.symm,l.out⟩
def Fx(A B:List ByteArray)(i:Nat):Bool:=((A.getD i ⟨#[]⟩).toList==(B.getD i ⟨#[]⟩).toList)
def kY(A B:List ByteArray):Bool:=(A.length==B.length)&&(List.range A.length).all (Fx A B)
theorem mO(h:n<I.length):I[n]?=some (I.getD n ⟨#[]⟩):=by
 rw[RT,RQ h];rfl
theorem Dp(w:jB a y0 d)(y:jB a i l)(F:d.length<=1000000000) :
  Calls prog 134 #[slice y0 d.length L,slice i l.length S] a fun e I=>e=returned (bool (kY d l))/\aa [] a I:=by
 have B:Hid _:=w;have C:Hid _:=y;clear w y;by_cases f:d.length=l.length
 ·have r:Hid (kY d l=(List.range d.length).all (Fx d l)):=by show _=_;unfold kY;rw[f];simp
  obtain⟨b,c⟩:∃b,Hid (d.length=b):=⟨_,rfl⟩
  have p:Hid (l.length=b):=by show _=_;rw[<-f];exact c.out
  rw[c.out,p.out];rw[c.out]at F r;clear f;go_enter func134,ntmps134;go_wp2
  go_loopg [5] b (fun g H wr=>∃k:Nat,k<=b/\g=b-k/\H=int i64 k/\Hid (∀j,j<k->Fx d l j=true)/\Hid (aa [] a wr))
  case atStart=>exact⟨0,by omega,rfl,rfl,(fun j s=>by omega),aa.refl _ _⟩
  case round =>
   obtain⟨k,N,M,rfl,u,q⟩:=hrel;by_cases n:k<b
   ·have t:(k:Int)<(b:Int):=(by omega);obtain⟨J,rfl,D,O⟩:=(jB.Wj B.out q.out) k _ (mO d k (by rw[c.out];exact n));obtain⟨K,rfl,E,P⟩:=(jB.Wj C.out q.out) k _ (mO l k (by rw[p.out];exact n));have v:Hid (Fx d l k=((d.getD k ⟨#[]⟩).toList==(l.getD k ⟨#[]⟩).toList)):=rfl;generalize d.getD k ⟨#[]⟩=x at *;generalize l.getD k ⟨#[]⟩=z at *;have o:Hid _:=q.out.drew;cases A:(x.toList==z.toList)
    ·have m:Hid (kY d l=false):=by
      show _=_;rw[r.out,Ve];exact⟨k,Sd.2 n,by rw[v.out,A];simp⟩
     (go_upto_region 6 with fail);go_region
     all_goals
      go_wp2;go_ret;exact⟨aE m.out.symm,o.out⟩
    ·have m:Hid (∀j,j<k+1->Fx d l j=true):=fun j s=>by
      by_cases e:j=k
      ·rw[e,v.out,A]
      ·exact u.out j (by omega)
     (go_upto_region 6 with fail);go_region
     all_goals
      go_wp2;go_roundg (b-(k+1))
      case measure=>omega
      case rel=>exact⟨k+1,by omega,rfl,by go_num,m,o⟩
   ·have m:Hid (kY d l=true):=by
     show _=_;rw[r.out,Tb];exact fun j s=>u.out j (by have:=Sd.1 s;omega)
    have t:¬(k:Int)<(b:Int):=(by omega);go_wp2;go_ret;exact⟨aE m.out.symm,q.out⟩
 ·have m:Hid (kY d l=false):=by show _=_;unfold kY;simp[f]
  have G:((d.length:Int)==l.length)=false:=V9 (by omega);go_enter func134,ntmps134;go_wp2;go_ret;exact⟨aE m.out.symm,aa.refl _ _⟩
def uM(rec:Nat->Int):Nat->Nat->List Nat->List Nat
 | 0,_,acc=>acc
 | m+1,b,acc=>uM rec m (rec (b-1)).toNat ((b-1) :: acc)
def fJ(P:List cW)(i:Nat):List Nat:=uM (dC P) (bK P i).need i []
theorem M9(c:Nat->Int)(m:Nat):∀b a,(uM c m b a).length=m+a.length:=by
 induction m with
 | zero=>intro b a;simp[uM]
 | succ m d=>intro b a;rw[uM,d];simp;omega
theorem J0:(fJ b n).length=(bK b n).need:=by unfold fJ;rw[M9];simp
theorem OY(j:∀i,M i<=(i:Int))(m:Nat):∀b a i,b<=i->0<=nQ M m b->(∀q∈a,q<i)->∀q∈uM M m b a,q<i:=by
 induction m with
 | zero=>intro b a i _ _ h;exact h
 | succ m k =>
  intro b a i l c h q d;rw[nQ]at c;rw[uM]at d;by_cases g:b=0
  ·rw[RY g]at c;omega
  ·rw[RU g]at c;by_cases f:M (b-1)<0
   ·rw[RY f]at c;omega
   ·rw[RU f]at c;have:=j (b-1);refine k _ _ i (by omega) c (fun q d=>?_) q d;rcases Sv.1 d with e | e
    ·omega
    ·exact h q e
theorem M1(h:0<=dC b n):∀q∈fJ b n,q<n:=by
 rw[pO]at h;exact OY (wA b) _ _ _ n (RV _) h (fun q a=>by cases a)
theorem OV(m x:Nat)(L:List Nat):(km (List.replicate (m+1) 0++L)).set m (int i64 x)=km (List.replicate m 0++x :: L):=by
 unfold km
 induction m with
 | zero=>simp
 | succ m a=>rw[U7,Ur,Uf,TZ,a];simp[List.replicate_succ]
theorem Jo:madeCells (int i64 0).cells (n*1)=(km (List.replicate n 0)).toArray:=by
 rw[Nat.mul_one];apply Array.ext
 ·rw[TO];simp[km]
 ·intro i a b;have e:(int i64 0).cells=#[int i64 0]:=rfl;simp[madeCells,e,Nat.mod_one,km]
def n8(w:World)(g:Nat)(L:List Nat):Prop:=w.heap[g]?=some (.cells (km L).toArray 3)
theorem n8.src{L:List Nat}(h:n8 v x L):rI v (some ⟨x,0,none⟩) L:=by
 intro k b a;refine⟨x,rfl,ae h,?_⟩;rw[aj h];simp[km,a]
theorem JZ(hl:b.length<=100000000)(hN:NN b)(hi:S<b.length)(hS:cG a i 6 lq b)(O:0<=dC b S) :
  Calls prog 103 #[agg #[slice i b.length L,int i64 s,string t,int i64 c,int i64 z0],int i64 S] a fun e B=>∃g,e=returned (slice (some ⟨g,0,none⟩) (bK b S).need (bK b S).need)/\n8 B g (fJ b S)/\aa [] a B:=by
 obtain⟨i0,Q,T,U,V⟩:=Sr Ay;have ai:=hN S;have Z:=fun a=>dH (P:=prog) a 24 3 i0 _ underlying24 Q T (bK b S).need 1 U (by rw[V];omega) (by omega);obtain⟨A,u⟩:∃A,Hid (madeCells (int i64 0).cells ((bK b S).need*1)=A):=⟨_,rfl⟩
 have I:Hid (A=(km (List.replicate (bK b S).need 0)).toArray):=by show _=_;rw[<-u.out,Jo]
 rw[u.out]at Z;obtain⟨W,K⟩:∃W,Hid (a.alloc (.cells #[slice i b.length L,int i64 s,string t,int i64 c,int i64 z0] 122)=W):=⟨_,rfl⟩
 have z:=fY K.out;have p:Hid _:=fN K.out;have HS:Hid _:=hS.Wj p.out;obtain⟨p0,-⟩:=nR z;have hz:=ae z;have af:(S:Int)<b.length:=by omega
 obtain⟨g,rfl,P,-,-,q2,-⟩:=cG.step HS.out S hi;have HB:Hid _:=z;rw[pO]at O;have H0:Hid _:=O;have J:Hid (uM (dC b) (bK b S).need S []=fJ b S):=rfl;have ac:Hid _:=Z W;generalize (bK b S).need=n at *;generalize fJ b S=N at *;have I0:Hid (n8 (W.alloc (.cells A 3)) W.heap.size (List.replicate n 0++[])):=by show _=_;rw[Su,I.out];exact R2 _ _
 clear hS z O;go_enter func103,ntmps103;go_upto_region 1 with fail
 rw[K.out];go_wp2;clear q2 P p0 Z
 go_loopg [7,8] n (fun ms bv kv wr=>∃(m j:Nat) (l:List Nat),m<=n/\ms=m/\bv=int i64 j/\kv=int i64 ((m:Int)-1)/\j<=S/\Hid (0<=nQ (dC b) m j)/\Hid (uM (dC b) m j l=N)/\Hid (n8 wr W.heap.size (List.replicate m 0++l))/\Hid (aa [] W wr))
 case atStart=>exact⟨n,S,[],by omega,rfl,rfl,by go_num,by omega,H0,J,I0,(aa.refl _ _).alloc _⟩
 case round =>
  obtain⟨m,j,l,hm,ag,rfl,rfl,hb,d,r,o,F⟩:=hrel;have H:Hid _:=p.out.trans F.out;cases m with
  | zero =>
   have HE:Hid (n8 wr W.heap.size N):=(by show n8 wr W.heap.size N;have:=o.out;rw[<-r.out];simpa [uM] using this);go_wp2;go_ret;exact⟨W.heap.size,rfl,HE.out,H.out⟩
  | succ q =>
   rw[nQ]at d;have v:j≠0:=fun e=>by
    have:=d.out;rw[RY e]at this;omega
   obtain⟨f,rfl⟩:∃f,j=f+1:=⟨j-1,by omega⟩
   rw[RU v,Tq]at d;have w:¬dC b f<0:=fun e=>by
    have:=d.out;rw[RY e]at this;omega
   rw[RU w]at d;rw[uM,Tq]at r;have BR:=F.out.get HB.out (by simp);obtain⟨r0,r1,r2,r3,r4⟩:=nR BR;have ap:=ae BR;have ad:=ae o.out;have u0:=am o.out q;have u1:wr.cell? ⟨W.heap.size,q,none⟩=some (int i64 0):=by
    rw[aj o.out];simp[km,List.replicate_succ']
   have an:(q:Int)<(n:Int):=(by omega);have al:((q:Int)+1-1)=(q:Int):=(by omega);have HC:Hid (∀y,aa [] W y->Calls prog 133 #[agg #[slice (some ⟨g,0,none⟩) b.length L,int i64 s,string t,int i64 c,int i64 z0],int i64 f] y fun e B=>e=returned (int i64 (dC b f))/\aa [] y B):=fun y kx=>um b _ L s t c z0 hl hN (f+1) f y (by omega) (by omega) (cG.Wj HS.out kx);have R:=wA b f;obtain⟨rn,x⟩:∃rn:Nat,dC b f=rn:=⟨(dC b f).toNat,by omega⟩
   rw[x]at HC r d R;rw[SO]at r d;obtain⟨X,M⟩:∃X,Hid (wr.setCell ⟨W.heap.size,q,none⟩ (int i64 (f:Int))=X):=⟨_,rfl⟩
   have k:Hid (aa [] W X):=(by show aa [] W X;rw[<-M.out];exact F.out.setCell (RZ (by simp)) _);have E:Hid (n8 X W.heap.size (List.replicate q 0++f :: l)):=by
    show _=_;rw[<-M.out,ah o.out];congr 2;have:=OV q f l;rw[<-this];simp
   have BX:=k.out.get HB.out (by simp);obtain⟨x0,x1,x2,x3,x4⟩:=nR BX;have xz:=ae BX;have C:Hid _:=HC.out X k.out;clear x w v;(go_upto_region 8 with fail);rw[M.out];go_wp2_with (go_at_call 133;refine R0 C.out ?_;rintro e w1 ⟨rfl,Y⟩;have G:Hid _:=k.out.trans Y;have D:=(show Hid (n8 w1 W.heap.size (List.replicate q 0++f :: l)) from Y.get E.out (by simp));clear Y);go_roundg q
   case measure=>omega
   case rel=>exact⟨q,rn,f :: l,by omega,rfl,rfl,by go_num,by omega,d,r,D,G⟩
def kH(T:List Tk)(S:List Sm)(a:Nat)(e:List ByteArray):List ByteArray:=e.filter (fun x=>ik T S x a)
theorem KC(h:n<I.length):kH y f S (I.take (n+1))=kH y f S (I.take n)++(if ik y f I[n] S=true then [I[n]] else []):=by
 unfold kH;rw[Ta h,Tf];congr 1;cases a:ik y f I[n] S
 ·rw[TR (by rw[a];simp)];rfl
 ·rw[Ue (p:=fun x=>ik y f x S) a];rfl
theorem rE(W:fZ a N y i L f z2 S)(ok:oP y f T)(X:jB a y0 l)(hl:l.length<=900000000) :
  Calls prog 242 #[pointer (some ⟨N,0,none⟩),int i64 T,slice y0 l.length y1] a fun e u=>∃b,e=returned (slice b.ao (kH y f T l).length b.cap)/\jd a u b (aG (kH y f T l)):=by
 have HD:Hid _:=W;have d:Hid _:=ok.ok;have G:Hid _:=X;have I:Hid (jd a a ⟨none,0⟩ (aG [])):=⟨Sb _ _ _ _,(by intro k Y;cases Y),aa.refl _ _⟩;obtain⟨iS,R,C,D,E⟩:=Sr lA;clear W ok X;go_enter func242,ntmps242;go_wp2
 go_loopg [7,8] l.length (fun g o ad wr=>∃(k:Nat) (b:Hd) (O:List ByteArray),k<=l.length/\g=l.length-k/\o=slice b.ao O.length b.cap/\ad=int i64 k/\O.length<=k/\Hid (O=kH y f T (l.take k))/\Hid (jd a wr b (aG O)))
 case atStart=>exact⟨0,⟨none,0⟩,[],by omega,rfl,rfl,rfl,by simp,by show _=_;simp[kH],I⟩
 case round =>
  obtain⟨k,b,O,Y,hg,rfl,rfl,hO,V,w⟩:=hrel;by_cases B:k<l.length
  ·have ac:(k:Int)<l.length:=(by omega);obtain⟨M,rfl,n,z⟩:=(jB.Wj G.out w.out.kept) k l[k] (RQ B);have c:Hid _:=KC y f T l k B;rw[<-V.out]at c;have J:Hid _:=Bi N T l[k] y i L f z2 S wr (fZ.Wj HD.out w.out.kept) d.out.m d.out.s d.out.t d.out.v;have F:Hid (∀u,aa [] wr u->u.cell? ⟨M,k,none⟩=some (string l[k])/\M<u.heap.size):=fun u Z=>⟨by rw[Sh (Z.block M n (by simp))];exact z,R6 n Z.size⟩
   generalize l[k]=x at *;obtain⟨U,K⟩:∃U,Hid (ik y f x T=U):=⟨_,rfl⟩
   rw[K.out]at J c;cases U
   ·have q:Hid (O=kH y f T (l.take (k+1))):=(by have:=c.out;rw[RU (by simp),Su]at this;exact this.symm);go_wp2_with (go_at_call 174;refine R0 J.out ?_;rintro e w1 ⟨rfl,r⟩;have j:Hid _:=w.out.Wj r;clear r);go_roundg (l.length-(k+1))
    case measure=>omega
    case rel=>exact⟨k+1,b,O,by omega,rfl,rfl,by go_num,by omega,q,j⟩
   ·have q:Hid (O++[x]=kH y f T (l.take (k+1))):=(by have:=c.out;rw[RY rfl]at this;exact this.symm);(go_upto_region 7 with (go_at_call 174;refine R0 J.out ?_;rintro e w1 ⟨rfl,r⟩));have j:Hid _:=w.out.Wj r;obtain⟨d0,d1⟩:=F.out w1 r;have Q:=j.out.own;have P:(aG O).n<=900000000:=(by show O.length<=_;omega);clear r z n;go_wp2_with (at_builtin;refine ci _ rfl (.tmp 24) (.tmp 29) 61 rfl iS (string ⟨#[]⟩) 16 b (aG O) [string x] underlying61 R C D E rfl So rfl Q P (by omega) rfl rfl (by simp[Value.oneCell']) ?_;intro h5 w5 p A;rw[fj]at p;have H:Hid _:=j.out.Wt A p;clear p A);go_roundg (l.length-(k+1))
    case measure=>omega
    case rel=>exact⟨k+1,h5,O++[x],by omega,rfl,by simp[aG],by go_num,by simp;omega,q,H⟩
  ·have e:k=l.length:=(by omega);subst e;have q:Hid (kH y f T l=O):=by show _=_;rw[V.out,Tr]
   go_wp2;go_ret;exact⟨b,by rw[q.out];rfl,by rw[q.out];exact w.out⟩
def Al(T:List Tk)(S:List Sm)(a:Nat)(Y:List ByteArray)(x:ByteArray):Bool:=Y.all (fun y=>dR T S x y a)
def pR(T:List Tk)(S:List Sm)(a:Nat)(E F:List ByteArray):Bool:=(kH T S a E).all (Al T S a (kH T S a F))
theorem Gv{p:ByteArray->Bool}(h:n<k.length)(a:p k[n]=false):k.all p=false:=by
 rw[Ve];exact⟨k[n],Sj h,by rw[a];simp⟩
theorem BC{p:ByteArray->Bool}(d:x=k.length)(h:∀a (b:a<k.length),a<x->p k[a]=true):k.all p=true:=by
 rw[Tb];intro f c;obtain⟨a,b,e⟩:=Tg c;rw[<-e];exact h a b (by omega)
theorem zO:(kH y f S I).length<=I.length:=TQ _ _
theorem IN(b:List Tk)(q:Option Addr)(K:Nat)(a:List Sm)(o:Option Addr)(J:Nat)(w:World)(L:fZ w N b q K a o J)(O:oP b a T)(hE:jB w i d)(hF:jB w z2 l)(hl:d.length<=900000000)(ad:l.length<=900000000) :
  Calls prog 215 #[pointer (some ⟨N,0,none⟩),int i64 T,slice i d.length S,slice z2 l.length n] w fun e I=>e=returned (bool (pR b a T d l))/\aa [] w I:=by
 have HD:Hid _:=L;have V:Hid _:=O;have D:Hid _:=rE N T d i S b q K a o J w L O hE hl;have E:Hid (∀f,aa [] w f->Calls prog 242 #[pointer (some ⟨N,0,none⟩),int i64 T,slice z2 l.length n] f fun e I=>∃h',e=returned (slice h'.ao (kH b a T l).length h'.cap)/\jd f I h' (aG (kH b a T l))):=fun f M=>rE N T l z2 n b q K a o J f (L.Wj M) O (hF.Wj M) ad;have HR:Hid (pR b a T d l=(kH b a T d).all (Al b a T (kH b a T l))):=rfl;have ar:=zO b a T d;have ax:=zO b a T l;generalize kH b a T d=X at *;generalize kH b a T l=Y at *;clear L O hE hF;go_enter func215,ntmps215;go_upto_region 2 with (go_at_call 242;refine R0 D.out ?_;rintro e w1 ⟨h1,rfl,P⟩)
 have F:Hid _:=E.out w1 P.kept;go_upto_region 3 with (go_at_call 242;refine R0 F.out ?_;rintro e w2 ⟨h2,rfl,Q⟩)
 have HX:Hid _:=(P.own.srcX.Wj Q.kept);have HY:Hid _:=Q.own.srcX;have v:Hid _:=P.kept.trans Q.kept;clear P Q D E F;obtain⟨a1,c1⟩:=h1;obtain⟨a2,c2⟩:=h2;go_wp2
 go_loopg [11] X.length (fun g ag wr=>∃k:Nat,k<=X.length/\g=X.length-k/\ag=int i64 k/\Hid (∀j (r:j<X.length),j<k->Al b a T Y X[j]=true)/\Hid (aa [] w2 wr))
 case atStart=>exact⟨0,by omega,rfl,rfl,(fun j _ r=>by omega),aa.refl _ _⟩
 case round =>
  obtain⟨k,hk,hg,rfl,HN,HK⟩:=hrel;by_cases H:k<X.length
  ·have ac:(k:Int)<X.length:=(by omega);obtain⟨gX,eX,G,qX⟩:=HX.out k X[k] (RQ H);replace eX:a1=some ⟨gX,0,none⟩:=eX;subst eX;have R:Hid (Al b a T Y X[k]=false->pR b a T d l=false):=fun h=>by rw[HR.out];exact Gv k H h
   have U:Hid (Al b a T Y X[k]=true->∀j (r:j<X.length),j<k+1->Al b a T Y X[j]=true):=fun h j r h2=>by
    by_cases e:j=k
    ·subst e;exact h
    ·exact HN.out j r (by omega)
   generalize X[k]=x at *;go_wp2
   go_loopg [12] Y.length (fun g ag wr=>∃m:Nat,m<=Y.length/\g=Y.length-m/\ag=int i64 m/\Hid (∀j (r:j<Y.length),j<m->dR b a x Y[j] T=true)/\Hid (aa [] w2 wr))
   case atStart=>exact⟨0,by omega,rfl,rfl,(fun j _ r=>by omega),HK⟩
   case round =>
    obtain⟨m,hm,al,rfl,C,c⟩:=hrel;by_cases u:m<Y.length
    ·have af:(m:Int)<Y.length:=(by omega);obtain⟨gY,eY,an,qY⟩:=(jB.Wj HY.out c.out) m Y[m] (RQ u);replace eY:a2=some ⟨gY,0,none⟩:=eY;subst eY;have az:wr.cell? ⟨gX,k,none⟩=some (string x):=(by rw[Sh (c.out.block gX G (by simp))];exact qX);have ai:=R6 G c.out.size;have A:Hid (∀f,aa [] wr f->Calls prog 95 #[pointer (some ⟨N,0,none⟩),string x,string Y[m],int i64 T] f fun e I=>e=returned (bool (dR b a x Y[m] T))/\aa [] f I):=fun f M=>wk N T x Y[m] b q K a o J f (fZ.Wj HD.out ((v.out.trans c.out).trans M)) V.out;have s:Hid (dR b a x Y[m] T=false->Al b a T Y x=false):=fun h=>Gv (p:=fun y=>dR b a x y T) m u h;have t:Hid (dR b a x Y[m] T=true->∀j (r:j<Y.length),j<m+1->dR b a x Y[j] T=true):=fun h j r h2=>by
      by_cases e:j=m
      ·subst e;exact h
      ·exact C.out j r (by omega)
     generalize Y[m]=y at *;obtain⟨Z,W⟩:∃Z,Hid (dR b a x y T=Z):=⟨_,rfl⟩
     rw[W.out]at A s t;(go_upto_region 9 with fail);go_region_with (go_at_call 95;refine(A.out _ (by exact(aa.refl [] wr).drew)).mono ?_;rintro e w3 ⟨rfl,k3⟩)
     all_goals
      have B:Hid _:=(c.out.drew).trans k3;cases Z
      ·have z:Hid _:=R.out (s.out rfl);go_wp2;go_ret;exact⟨aE z.out.symm,v.out.trans B.out⟩
      ·have z:Hid _:=t.out rfl;go_wp2;go_roundg (Y.length-(m+1))
       case measure=>omega
       case rel=>exact⟨m+1,by omega,rfl,by go_num,z,B⟩
    ·have e:m=Y.length:=(by omega);have z:Hid _:=U.out (BC e C.out);have af:¬(m:Int)<Y.length:=(by omega);go_wp2;go_roundg (X.length-(k+1))
     case measure=>omega
     case rel=>exact⟨k+1,by omega,rfl,by go_num,z,c⟩
  ·have e:k=X.length:=(by omega);have z:Hid (pR b a T d l=true):=(by show _=_;rw[HR.out];exact BC e HN.out);have ac:¬(k:Int)<X.length:=(by omega);go_wp2;go_ret;exact⟨aE z.out.symm,v.out.trans HK.out⟩
structure Sl where
 ao:Option Addr
 cap:Nat
 L:List ByteArray
def FC(s:Sl):List Value:=[slice s.ao s.L.length s.cap]
theorem v9(s:Sl):(FC s).length=1:=rfl
def lP(A:List Sl):eB:=kT 61 1 FC A
theorem qQ(L:List Sl)(x:Sl):(⟨(lP L).e,(lP L).size,(lP L).n+1,(lP L).xs++FC x⟩:eB)=lP (L++[x]):=jH _ _ _ _ _
structure pH(w:World)(s:Sl):Prop where
 src:∀(k:Nat) (x:ByteArray),s.L[k]?=some x->∃g o,s.ao=some ⟨g,o,none⟩/\g<w.heap.size/\w.cell? ⟨g,o+k,none⟩=some (string x)
 nil:s.ao=none->s.L.length=0/\s.cap=0
 le:s.L.length<=s.cap
theorem pH.Wj{s:Sl}(h:pH v s)(k:aa [] v z3):pH z3 s :=
 ⟨fun j x c=>by
  obtain⟨g,o,e,a,b⟩:=h.src j x c;exact⟨g,o,e,R6 a k.size,by rw[Sh (k.block g a (by simp))];exact b⟩,h.nil,h.le⟩
def pu(w:World)(A:List Sl):Prop:=∀s∈A,pH w s
theorem pu.Wj{A:List Sl}(h:pu v A)(k:aa [] v z3):pu z3 A:=fun s a=>(h s a).Wj k
theorem Is:(⟨L,S,none⟩:Addr).add n=⟨L,S+n,none⟩:=by
 simp only[Addr.add];split
 ·next h=>subst h;rfl
 ·rfl
theorem pH.cells{s:Sl}(h:pH v s):∀b,s.ao=some b->∀j u,(eS s.L)[j]?=some u->v.cell? (b.add j)=some u:=by
 intro b e j u a;rw[eS,Sy]at a;cases d:s.L[j]? with
 | none=>rw[d]at a;cases a
 | some x =>
  rw[d]at a;cases a
  obtain⟨g,o,f,-,c⟩:=h.src j x d;rw[e]at f;cases f
  rw[Is];exact c
theorem jd.sl(a:jd v z3 zb (aG k)):pH z3 ⟨zb.ao,zb.cap,k⟩ :=
 ⟨fun f x d=>by
  obtain⟨g,e,b,c⟩:=a.own.srcX f x d;exact⟨g,0,e,b,by rw[Ut];exact c⟩,a.none,a.le⟩
def mP(V:List ByteArray)(x:ByteArray):Nat:=V.findIdx (fun y=>(y.toList==x.toList))
def uG(V:List ByteArray)(A:List (List ByteArray))(x:ByteArray):List ByteArray:=if mP V x<V.length then A.getD (mP V x) [] else [x]
def dO(V:List ByteArray)(A:List (List ByteArray))(e:List ByteArray):List ByteArray:=e.flatMap (uG V A)
theorem Oi(c:x<k.length)(h:(k[x].toList==zt.toList)=true)(b:∀j (a:j<k.length),j<x->(k[j].toList==zt.toList)=false):mP k zt=x:=by
 unfold mP;rw[List.findIdx_eq c];exact⟨h,fun j a=>b j (by omega) a⟩
theorem Mb(d:x=k.length)(b:∀j (a:j<k.length),j<x->(k[j].toList==zt.toList)=false):mP k zt=k.length:=by
 unfold mP;rw[List.findIdx_eq_length];intro y c;obtain⟨j,a,e⟩:=Tg c;rw[<-e];exact b j a (by omega)
theorem MO(A:List (List ByteArray))(e:List ByteArray)(k:Nat)(h:k<e.length):dO I A (e.take (k+1))=dO I A (e.take k)++uG I A e[k]:=by
 unfold dO;rw[Ta h,TI];simp
def Rx:Sl:=⟨none,0,[]⟩
def gy(A:List Sl)(i:Nat):Sl:=A.getD i Rx
theorem Hw(A:List Sl)(i:Nat)(h:i<A.length):A[i]?=some (gy A i):=by
 unfold gy;rw[RT,RQ h];rfl
theorem j7(A:List Sl)(i:Nat)(h:i<A.length):gy A i∈A:=TG (Hw A i h)
theorem cG.sl{A:List Sl}(h:cG v z4 1 FC A)(k:Nat)(b:k<A.length):∃g,z4=some ⟨g,0,none⟩/\g<v.heap.size/\v.cell? ⟨g,k,none⟩=some (slice (gy A k).ao (gy A k).L.length (gy A k).cap):=by
 obtain⟨g,e,a,c⟩:=h k _ (Hw A k b);refine⟨g,e,a,?_⟩;have:=c 0 _ rfl;simpa using this
theorem xj(A:List Sl)(k:Nat)(h:k<A.length):(A.map (·.L)).getD k []=(gy A k).L:=by
 unfold gy;rw[RT,RT,Sy,RQ h];rfl
theorem C4(A:List Sl)(t:Option Addr)(cA:Nat)(E:List ByteArray)(Y:Option Addr)(cE:Nat)(w:World)(hV:jB w z7 l)(hA:cG w t 1 FC A)(ac:pu w A)(bg:l.length<=A.length)(be:A.length<=100000)(hE:jB w Y E)(bf:E.length<=10000)(ad:∀s∈A,s.L.length<=10000) :
  Calls prog 180 #[agg #[slice z7 l.length n,slice t A.length cA],slice Y E.length cE] w fun e p=>∃c,e=returned (slice c.ao (dO l (A.map (·.L)) E).length c.cap)/\jd w p c (aG (dO l (A.map (·.L)) E)):=by
 obtain⟨W,HW⟩:∃W,Hid (w.alloc (.cells #[slice z7 l.length n,slice t A.length cA] 271)=W):=⟨_,rfl⟩
 have BW:=fY HW.out;have F:Hid _:=fN HW.out;have HB:Hid _:=BW;have HV:Hid _:=hV;have HA:Hid _:=hA;have ar:Hid _:=ac;have HE:Hid _:=hE;have a1:Hid _:=ad;have bc:Hid (jd w W ⟨none,0⟩ (aG [])):=⟨Sb _ _ _ _,(by intro k P;cases P),F.out⟩;obtain⟨iS,ai,z,B,C⟩:=Sr lA;have T:Hid (([]:List ByteArray)=dO l (A.map (·.L)) (E.take 0)):=by show _=_;simp[dO]
 obtain⟨M,R⟩:∃M,Hid (A.map (·.L)=M):=⟨_,rfl⟩
 rw[R.out]at T ⊢;have a0:Hid (∀k,k<A.length->M.getD k []=(gy A k).L):=fun k P=>by rw[<-R.out];exact xj A k P
 clear hV hA ac hE ad;have ax:Hid (∀wr,aa [] w wr->wr.heap[w.heap.size]?=W.heap[w.heap.size]?->wr.cell? ⟨w.heap.size,0,none⟩=some (slice z7 l.length n)/\wr.cell? ⟨w.heap.size,1,none⟩=some (slice t A.length cA)/\w.heap.size<wr.heap.size):=fun wr _ e=>by
  rw[HB.out]at e;exact⟨by rw[aj e];rfl,by rw[aj e];rfl,ae e⟩
 go_enter func180,ntmps180;go_upto_region 1 with fail
 rw[HW.out];go_wp2
 go_loopg [5,6] E.length (fun g o i wr=>∃(k:Nat) (c:Hd) (O:List ByteArray),k<=E.length/\g=E.length-k/\o=slice c.ao O.length c.cap/\i=int i64 k/\O.length<=10000*k/\Hid (O=dO l M (E.take k))/\Hid (jd W wr c (aG O)))
 case atStart=>exact⟨0,⟨none,0⟩,[],by omega,rfl,rfl,rfl,by simp,T,⟨Sb _ _ _ _,(by intro k P;cases P),aa.refl _ _⟩⟩
 case round =>
  obtain⟨k,c,O,P,hg,rfl,rfl,hO,HO,V⟩:=hrel;by_cases an:k<E.length
  ·have bo:(k:Int)<E.length:=(by omega);obtain⟨gE,rfl,ag,a2⟩:=HE.out k E[k] (RQ an);have I:Hid _:=MO l M E k an;rw[<-HO.out]at I;have aT:Hid (∀p,aa [] w p->p.cell? ⟨gE,k,none⟩=some (string E[k])/\gE<p.heap.size):=fun p kw=>⟨by rw[Sh (kw.block gE ag (by simp))];exact a2,R6 ag kw.size⟩
   generalize E[k]=x at *;have U:Hid (uG l M x=if mP l x<l.length then M.getD (mP l x) [] else [x]):=rfl;go_wp2
   go_loopg [7] (l.length) (fun g i wr=>∃q:Nat,q<=l.length/\g=l.length-q/\i=int i64 q/\Hid (∀j (hj:j<l.length),j<q->(l[j].toList==x.toList)=false)/\Hid (jd W wr c (aG O)))
   case atStart=>exact⟨0,by omega,rfl,rfl,(fun j _ hj=>by omega),V⟩
   case round =>
    obtain⟨q,hq,bk,rfl,H,f⟩:=hrel;have d:Hid _:=F.out.trans f.out.kept;have az:Hid _:=(f.out.kept.get HB.out (by simp));obtain⟨b0,b1,bj⟩:=ax.out wr d.out (by rw[az.out,HB.out]);obtain⟨d0,d1⟩:=aT.out wr d.out;by_cases N:q<l.length
    ·have a6:(q:Int)<l.length:=(by omega);obtain⟨gV,eV,bl,bd⟩:=(jB.Wj HV.out d.out) q l[q] (RQ N);subst eV;have X:Hid ((l[q].toList==x.toList)=true->mP l x=q):=fun h=>Oi N h H.out;have S:Hid ((l[q].toList==x.toList)=false->∀j (hj:j<l.length),j<q+1->(l[j].toList==x.toList)=false):=fun h j hj h2=>by
      by_cases e:j=q
      ·subst e;exact h
      ·exact H.out j hj (by omega)
     generalize l[q]=y at *;cases hy:(y.toList==x.toList)
     ·have HM:Hid _:=S.out hy;(go_upto_region 6 with fail);go_quiet (fail);have a:Hid _:=f.out.Wj ((aa.refl [] wr).drewN nq);go_wp2;go_roundg (l.length-(q+1))
      case measure=>omega
      case rel=>exact⟨q+1,by omega,rfl,by go_num,HM,a⟩
     ·have al:=X.out hy;have u:q<A.length:=(by omega);have ba:(q:Int)<A.length:=(by omega);obtain⟨gA,eA,af,Z⟩:=cG.sl (cG.Wj HA.out d.out) q u;subst eA;have J:Hid _:=(pu.Wj ar.out d.out) (gy A q) (j7 A q u);have a7:=a1.out (gy A q) (j7 A q u);have r:Hid (O++(gy A q).L=dO l M (E.take (k+1))):=by
       show _=_;rw[I.out,U.out,al,RY N,a0.out q u]
      have aS:Hid (∀p,aa [] wr p->p.cell? ⟨gA,q,none⟩=some (slice (gy A q).ao (gy A q).L.length (gy A q).cap)/\gA<p.heap.size):=fun p kw=>⟨by rw[Sh (kw.block gA af (by simp))];exact Z,R6 af kw.size⟩
      clear al;generalize gy A q=s at *;obtain⟨ap,D,sL⟩:=s;simp only at Z J a7 r aS;(go_upto_region 6 with fail);go_quiet (fail);have Q:=(aa.refl [] wr).drewN nq;have a:Hid _:=f.out.Wj Q;have v:Hid _:=pH.Wj J.out Q;have a4:Hid _:=v.out.cells;have a5:Hid (ap=none->sL.length=0/\D=0):=v.out.nil;have K:=a.out.own;clear Q J;go_wp2_with (at_builtin;refine eN _ rfl (.tmp 38) (.tmp 43) 61 rfl iS (string ⟨#[]⟩) 16 c (aG O) underlying61 ai z B C rfl So rfl K ap sL.length D (eS sL) rfl (by simp[aG,eS]) a5.out a4.out (mw sL) (by simp only[aG];omega) (by omega) ?_;intro h5 w5 b m;rw[Df]at b;have G:Hid _:=a.out.Wt m b;clear b m);go_roundg (E.length-(k+1))
      case measure=>omega
      case rel=>exact⟨k+1,h5,O++sL,by omega,rfl,by simp[aG],by go_num,by simp;omega,r,G⟩
    ·have eq:q=l.length:=(by omega);have a6:decide ((q:Int)<l.length)=false:=TF (by omega);have bp:¬(q:Int)<l.length:=(by omega);have r:Hid (O++[x]=dO l M (E.take (k+1))):=by
      show _=_;rw[I.out,U.out,Mb eq H.out,RU (by omega)]
     (go_upto_region 6 with fail);go_quiet (fail);have Q:=(aa.refl [] wr).drewN nq;have a:Hid _:=f.out.Wj Q;have K:=a.out.own;have a3:(aG O).n<=900000000:=(by show O.length<=_;omega);clear Q;go_wp2_with (at_builtin;refine ci _ rfl (.tmp 45) (.tmp 50) 61 rfl iS (string ⟨#[]⟩) 16 c (aG O) [string x] underlying61 ai z B C rfl So rfl K a3 (by omega) rfl rfl (by simp[Value.oneCell']) ?_;intro h5 w5 b m;rw[fj]at b;have G:Hid _:=a.out.Wt m b;clear b m);go_roundg (E.length-(k+1))
     case measure=>omega
     case rel=>exact⟨k+1,h5,O++[x],by omega,rfl,by simp[aG],by go_num,by simp;omega,r,G⟩
  ·have e:k=E.length:=(by omega);subst e;have HM:Hid (dO l M E=O):=by show _=_;rw[HO.out,Tr]
   go_wp2;go_ret;exact⟨c,by rw[HM.out];rfl,by rw[HM.out];exact V.out.base F.out⟩
def rA(S:List Sm)(hs:List Nat)(i:Nat):Bool:=((aq S (hs.getD i 0)).k.toList == [36,102])
def so(S:List Sm)(hs:List Nat)(k:Nat):List Nat:=(List.range k).filter (rA S hs)
def a8(T:List Tk)(S:List Sm)(j:Nat):List ByteArray:=bq T (aq S j).h
def bE(T:List Tk)(S:List Sm)(hs:List Nat)(k:Nat):List ByteArray:=(so S hs k).map (fun i=>(a8 T S (hs.getD i 0)).getD 1 ⟨#[]⟩)
def bn(S:List Sm)(hs:List Nat)(M:List (List ByteArray))(k:Nat):List (List ByteArray):=(so S hs k).map (fun i=>(M.getD i []).drop 1)
theorem JP:so f H (n+1)=so f H n++(if rA f H n=true then [n] else []):=im _ _
theorem ED:(prog.info? 61).map (fun i=>(i.zero,i.size,i.bytes))=some (some (slice none 0 0),1,24):=by kernel_rfl
structure KQ(w wr:World)(V:List ByteArray)(hv:Hd)(B:List Sl)(hb:Hd):Prop where
 r:wr.heap[w.heap.size]?=some (.cells #[slice none 0 0,slice none 0 0] 271)
 c:wr.heap[w.heap.size+1]?=some (.cells #[slice hv.ao V.length hv.cap,slice hb.ao B.length hb.cap] 271)
 v:aC wr hv (aG V)
 b:aC wr hb (lP B)
 fv:∀k,hv.blk=some k->w.heap.size+1<k
 fb:∀k,hb.blk=some k->w.heap.size+1<k
 ap:∀k,hv.blk=some k->hb.blk≠some k
 s:pu w B
 kept:aa [] w wr
section
variable {w wr w5:World} {V V':List ByteArray} {hv hb h5:Hd} {B B':List Sl}
theorem KQ.Wj(a:KQ w wr V hv B hb)(k:aa [] wr w5):KQ w w5 V hv B hb :=
 ⟨k.get a.r (by simp),k.get a.c (by simp),a.v.Wj k,a.b.Wj k,a.fv,a.fb,a.ap,a.s,a.kept.trans k⟩
theorem Cr(f:∀k,zb.blk=some k->x<k)(b:x<wr.heap.size)(g:bI wr w5 zb h5):∀k,h5.blk=some k->x<k:=fun k a=>by
 rcases g.blk with e | ⟨q,e,c⟩
 ·exact f k (by rw[<-e];exact a)
 ·rw[e]at a;cases a;omega
theorem wZ{h o:Hd}{r:eB}(c:∀k,h.blk=some k->o.blk≠some k)(d:aC wr o r)(g:bI wr w5 h h5):∀k,h5.blk=some k->o.blk≠some k:=fun k b a=>by
 rcases g.blk with e | ⟨q,e,f⟩
 ·exact c k (by rw[<-e];exact b) a
 ·rw[e]at b;cases b;have:=d.lt a;omega
theorem KQ.addV(a:KQ w wr V hv B hb)(g:bI wr w5 hv h5)(o:aC w5 h5 (aG V')){m:Nat}(f:m=V'.length):KQ w (w5.setCell ⟨w.heap.size+1,0,none⟩ (slice h5.ao m h5.cap)) V' h5 B hb:=by
 subst f;have n:∀q,q<=w.heap.size+1->q∉hv.blk.toList:=fun q d f=>by have:=a.fv q (aQ f);omega
 have u:=ae a.c;have x:=g.kept.get a.r (n _ (by omega));have p:=g.kept.get a.c (n _ (by omega));have l:=Cr a.fv u g;have j:aC w5 hb (lP B):=g.beside a.b (fun k t e=>a.ap k e t);have i:aa [w.heap.size+1] w5 (w5.setCell ⟨w.heap.size+1,0,none⟩ (slice h5.ao V'.length h5.cap)):=(aa.refl _ _).setCell (R4 (by simp)) _;have v:aa [] w w5:=pY g.kept (fun q d=>by have:=a.fv q (aQ d);omega) a.kept;exact⟨i.get x (by simp),by rw[ah p];rfl,o.Wo (fun q d=>i.block q (o.lt d) (by simp;have:=l q d;omega)),j.Wo (fun q d=>i.block q (j.lt d) (by simp;have:=a.fb q d;omega)),l,a.fb,wZ a.ap a.b g,a.s,v.setCell (RZ (by simp)) _⟩
theorem KQ.addB(a:KQ w wr V hv B hb)(g:bI wr w5 hb h5)(o:aC w5 h5 (lP B'))(s:pu w B'){m:Nat}(i:m=B'.length):KQ w (w5.setCell ⟨w.heap.size+1,1,none⟩ (slice h5.ao m h5.cap)) V hv B' h5:=by
 subst i;have n:∀q,q<=w.heap.size+1->q∉hb.blk.toList:=fun q d i=>by have:=a.fb q (aQ i);omega
 have u:=ae a.c;have y:=g.kept.get a.r (n _ (by omega));have t:=g.kept.get a.c (n _ (by omega));have l:=Cr a.fb u g;have p:aC w5 hv (aG V):=g.beside a.v (fun k e b=>a.ap k e b);have j:aa [w.heap.size+1] w5 (w5.setCell ⟨w.heap.size+1,1,none⟩ (slice h5.ao B'.length h5.cap)):=(aa.refl _ _).setCell (R4 (by simp)) _;have x:aa [] w w5:=pY g.kept (fun q d=>by have:=a.fb q (aQ d);omega) a.kept;have f:=wZ (h:=hb) (o:=hv) (fun k e b=>a.ap k b e) a.v g;exact⟨j.get y (by simp),by rw[ah t];rfl,p.Wo (fun q d=>j.block q (p.lt d) (by simp;have:=a.fv q d;omega)),o.Wo (fun q d=>j.block q (o.lt d) (by simp;have:=l q d;omega)),a.fv,l,fun k e b=>f k b e,s,x.setCell (RZ (by simp)) _⟩
end
theorem Kz{d e:Value}(h:v.heap[x]?=some (.cells #[d,e] 271))(a b:Value) :
  (v.setCell ⟨x,0,none⟩ a).cell? ⟨x,0,none⟩=some a/\((v.setCell ⟨x,0,none⟩ a).setCell ⟨x,1,none⟩ b).cell? ⟨x,1,none⟩=some b:=by
 have c:=ah h 0 a;have f:=ah c 1 b;exact⟨by rw[aj c];rfl,by rw[aj f];rfl⟩
theorem pH.tail{o n:Nat}(a:pH v ⟨some ⟨x,o,none⟩,n,k⟩):pH v ⟨some ⟨x,o+1,none⟩,n-1,k.drop 1⟩:=by
 have b:=a.le;simp only at b;refine⟨fun d i f=>?_,fun h=>(by cases h),(by simp;omega)⟩;simp only[List.getElem?_drop]at f;obtain⟨j,l,e,g,c⟩:=a.src (1+d) i f;cases e
 exact⟨x,o+1,rfl,g,by rw[show o+1+d=o+(1+d) by omega];exact c⟩
theorem pH.none0(h:z4=none->x=0):pH v ⟨z4,x,[]⟩:=⟨fun k b a=>by simp at a,fun e=>⟨rfl,h e⟩,SE _⟩
theorem JW(A:List Sl)(bg:Option Addr)(cA:Nat)(w:World)(hD:fZ w T y i L f z2 S)(ok:oP y f y1)(hH:rI w z7 H)(z:∀j∈H,j<y1)(cB:H.length<=10000)(hA:cG w bg 1 FC A)(bl:pu w A)(cz:H.length<=A.length)(hF:∀b1,b1<H.length->rA f H b1=true->1<(a8 y f (H.getD b1 0)).length)(hN:∀s∈A,0<s.L.length) :
  Calls prog 178 #[pointer (some ⟨T,0,none⟩),slice z7 H.length n,slice bg A.length cA] w fun e w'=>∃l d B,e=returned (agg #[slice l.ao (bE y f H H.length).length l.cap,slice d.ao B.length d.cap])/\B.map (·.L)=bn f H (A.map (·.L)) H.length/\pu w B/\jd w w' l (aG (bE y f H H.length))/\jd w w' d (lP B):=by
 have HD:Hid _:=hD;have ca:Hid _:=ok;have cE:=ok.sm;have cF:=ok.tm;have hn:=ok.ok.m;have HH:Hid _:=hH;have b5:Hid _:=z;have HA:Hid _:=hA;have b2:Hid _:=bl;have HF:Hid _:=hF;have HN:Hid _:=hN;obtain⟨iS,cp,bz,bT,b0⟩:=Sr lA;obtain⟨iL,bx,Z,ac,ad⟩:=Sr ED;have S0:Hid (KQ w ((w.alloc (.cells #[slice none 0 0,slice none 0 0] 271)).alloc (.cells #[slice none 0 0,slice none 0 0] 271)) [] ⟨none,0⟩ [] ⟨none,0⟩):=by
  obtain⟨W1,R⟩:∃W1,W1=w.alloc (.cells #[slice none 0 0,slice none 0 0] 271):=⟨_,rfl⟩
  have z1:W1.heap.size=w.heap.size+1:=by rw[R];simp
  have k0:=fN R.symm;have e0:=fY R.symm;have k1:aa [] W1 (W1.alloc (.cells #[slice none 0 0,slice none 0 0] 271)):=(aa.refl [] _).alloc _;show KQ _ _ _ _ _ _;rw[<-R];exact⟨k1.get e0 (by simp),by rw[<-z1];exact R2 _ _,Sb _ _ _ _,Sb _ _ _ _,(by intro k Y;cases Y),(by intro k Y;cases Y),(by intro k Y;cases Y),(fun s H=>by cases H),k0.trans k1⟩
 obtain⟨M,a7⟩:∃M,Hid (A.map (·.L)=M):=⟨_,rfl⟩
 rw[a7.out];have b6:Hid (∀k,k<A.length->M.getD k []=(gy A k).L):=fun k Y=>by rw[<-a7.out];exact xj A k Y
 have cb:Hid (([]:List ByteArray)=bE y f H 0):=rfl;have b3:Hid (([]:List Sl).map (·.L)=bn f H M 0):=rfl;clear hD ok hH z hA bl hF hN;go_enter func178,ntmps178;go_wp2
 go_loopg [8] H.length (fun g b1 wr=>∃(k:Nat) (V:List ByteArray) (l:Hd) (B:List Sl) (d:Hd),k<=H.length/\g=H.length-k/\b1=int i64 k/\(V.length<=k/\B.length<=k)/\Hid (V=bE y f H k)/\Hid (B.map (·.L)=bn f H M k)/\Hid (KQ w wr V l B d))
 case atStart=>exact⟨0,[],⟨none,0⟩,[],⟨none,0⟩,by omega,rfl,rfl,⟨RV _,RV _⟩,cb,b3,S0⟩
 case round =>
  obtain⟨k,V,l,B,d,Y,hg,rfl,⟨cL,cy⟩,HV,HB,o⟩:=hrel;have O:Hid _:=o.out.kept;by_cases z:k<H.length
  ·have cs:(k:Int)<H.length:=(by omega);have cq:=b5.out H[k] (Sj z);have N:H[k]<f.length:=(by omega);obtain⟨gH,rfl,bv,bj⟩:=(rI.Wj HH.out O.out) k H[k] (RQ z);have a5:Hid _:=fZ.Wj HD.out O.out;obtain⟨t0,s0,ck⟩:=a5.out.cells;obtain⟨gs,rfl,co,-,-,-,q3⟩:=a5.out.s.2 H[k] f[H[k]] (RQ N);have aS:H.getD k 0=H[k]:=(by rw[RT,RQ z];rfl);have bd:Hid (rA f H k=(f[H[k]].k.toList == [36,102])):=(by show _=_;unfold rA;rw[aS,bQ f H[k] N]);have p:Hid _:=JP f H k;have c4:((H[k]:Nat):Int)<f.length:=(by omega);have c3:(0:Int)<=((H[k]:Nat):Int):=(by omega);have a2:Hid ((f[H[k]].k.toList == [36,102])=true->∀wx,aa [] w wx->Calls prog 73 #[pointer (some ⟨T,0,none⟩),int i64 ((H[k]:Nat):Int)] wx fun e w'=>∃h',e=returned (slice h'.ao (bq y f[H[k]].h).length h'.cap)/\yP wx w' h' (bq y f[H[k]].h)):=fun h wx kx=>l6 T H[k] y i L f _ S wx (fZ.Wj HD.out kx) N (by omega) (by have:=ca.out.e H[k] cq;rw[<-bQ f H[k] N]at this;exact this (fB h (by decide)));have a3:Hid (bq y f[H[k]].h=a8 y f (H.getD k 0)):=(by show _=_;unfold a8;rw[aS,bQ f H[k] N]);rw[a3.out]at a2;have a6:Hid _:=HF.out k z;rw[bd.out]at p a6;clear a3 bd aS;generalize f[H[k]].k=sk at *;generalize H[k]=j at *;cases h1:(sk.toList == [36,102])
   ·rw[h1,RU (by simp),Su]at p;have P:Hid (V=bE y f H (k+1)):=(by show _=_;unfold bE;rw[p.out];exact HV.out);have I:Hid (B.map (·.L)=bn f H M (k+1)):=(by show _=_;unfold bn;rw[p.out];exact HB.out);(go_upto_region 5 with fail);go_quiet (fail);have ap:Hid _:=o.out.Wj ((aa.refl [] wr).drewN nq);go_wp2;go_roundg (H.length-(k+1))
    case measure=>omega
    case rel=>exact⟨k+1,V,l,B,d,by omega,rfl,by go_num,⟨by omega,by omega⟩,P,I,ap⟩
   ·rw[h1,RY rfl]at p;have br:=a6.out h1;have ai:Hid _:=a2.out h1;obtain⟨X,HX⟩:∃X,Hid (a8 y f (H.getD k 0)=X):=⟨_,rfl⟩
    rw[HX.out]at br ai;have P:Hid (V++[X.getD 1 ⟨#[]⟩]=bE y f H (k+1)):=by show _=_;unfold bE;rw[p.out,SF,HV.out];simp only[List.map_cons,List.map_nil];rw[HX.out];rfl
    have U:k<A.length:=(by omega);have I:Hid (B.map (·.L)++[(gy A k).L.drop 1]=bn f H M (k+1)):=(by show _=_;unfold bn;rw[p.out,SF,HB.out];simp only[List.map_cons,List.map_nil];rw[b6.out k U];rfl);(go_upto_region 5 with fail);go_quiet (fail);(go_upto_region 6 with fail);obtain⟨W2,W⟩:∃W2,Hid (wr.drewN nq=W2):=⟨_,rfl⟩
    rw[W.out];have k2:aa [] wr W2:=by rw[<-W.out];exact(aa.refl [] wr).drewN nq
    have ap:Hid _:=o.out.Wj k2;have a1:Hid _:=ai.out W2 (O.out.trans k2);have bk:W2.cell? ⟨gH,k,none⟩=some (int i64 (j:Int)):=(by rw[Sh (k2.block gH bv (by simp))];exact bj);have bw:=R6 bv k2.size;clear t0 s0 ck q3 bj co k2 ai;(go_upto_region 7 with (go_at_call 73;refine R0 a1.out ?_;rintro e w3 ⟨h3,rfl,x3⟩));have t:Hid _:=ap.out.Wj x3.kept;obtain⟨gX,eX,cl,cX⟩:=x3.own.srcX 1 _ (mO X 1 br);generalize X.getD 1 ⟨#[]⟩=x at *;rw[eX];have cP:(1:Int)<X.length:=(by omega);have p0:w3.cell? ⟨w.heap.size+1,0,none⟩=some (slice l.ao V.length l.cap):=(by rw[aj t.out.c];rfl);have p1:=am t.out.c 0;have p2:=ae t.out.c;have ch:=t.out.v;have cj:Hid ((aG V).n<=900000000):=(by show V.length<=_;omega);have cc:Hid ((aG V).n=V.length):=rfl;clear bk bw x3;go_region_law (refine bR w3 rfl (.tmp 36) (.tmp 40) 61 rfl iS (string ⟨#[]⟩) 16 l (aG V) [string x] underlying61 cp bz bT b0 rfl So (by rw[cc.out];simp[Act.eval]) ch cj.out (by omega) (by simp[Act.eval]) rfl (by simp[Value.oneCell']) ?_;intro ar J w5 a0 az;have c5:=az.kept.get t.out.c (fun E=>by have:=t.out.fv _ (aQ E);omega);have f5:=am c5 0;have d5:w5.cell? ⟨w.heap.size+1,0,none⟩=some (slice l.ao V.length l.cap):=(by rw[aj c5];rfl);have z5:=ae c5)
    all_goals
     rw[fj]at a0;have a:Hid _:=(t.out.addV (m:=(aG V).n+1) az a0 (by simp[aG]));obtain⟨X5,bf⟩:∃X5,Hid (w5.setCell ⟨w.heap.size+1,0,none⟩ (slice ar ((aG V).n+1) J)=X5):=⟨_,rfl⟩
     rw[bf.out]at a ⊢;clear a0 az c5 f5 d5 z5 p0 p1 p2 bf cl cX;have b4:Hid _:=a.out.kept;obtain⟨gA,rfl,c2,cf⟩:=cG.sl (cG.Wj HA.out b4.out) k U;have an:Hid _:=b2.out (gy A k) (j7 A k U);have aT:=HN.out (gy A k) (j7 A k U);have cx:(k:Int)<A.length:=by omega
     generalize gy A k=s at *;obtain⟨cu,b,D⟩:=s;obtain⟨F,G,es,-,-⟩:=an.out.src 0 _ (mO D 0 aT);replace es:cu=some ⟨F,G,none⟩:=es;subst es;have ct:=an.out.le;simp only at cf aT ct I;have p0:X5.cell? ⟨w.heap.size+1,1,none⟩=some (slice d.ao B.length d.cap):=by rw[aj a.out.c];rfl
     have p1:=am a.out.c 1;have p2:=ae a.out.c;have bp:=a.out.b;have bo:Hid ((lP B).n<=900000000):=(by show B.length<=_;omega);have a4:Hid ((lP B).n=B.length):=rfl;have c7:(1:Int)<=D.length:=(by omega);have c8:1<=D.length:=aT;have cR:1<=b:=(by omega);have cV:(D.length:Int)<=(b:Int):=(by omega);by_cases bs:b=1
     ·subst bs;have HT:Hid (pH w ⟨some ⟨F,G,none⟩,0,D.drop 1⟩):=(by show pH w _;rw[UM (by omega)];exact pH.none0 (fun e=>by cases e));have al:Hid (([slice (some ⟨F,G,none⟩) 0 0]:List Value)=FC ⟨some ⟨F,G,none⟩,0,D.drop 1⟩):=(by show _=_;unfold FC;rw[UM (by omega)];rfl);(go_upto_region 8 with fail);go_region_law (refine bR X5 rfl (.tmp 44) (.tmp 50) 218 rfl iL (slice none 0 0) 24 d (lP B) [slice (some ⟨F,G,none⟩) 0 0] underlying218 bx Z ac ad rfl So (by rw[a4.out];simp[Act.eval]) bp bo.out (by omega) (by simp[Act.eval]) rfl (by simp[Value.oneCell']) ?_;intro ax K w6 C u;have Q:=u.kept.get a.out.c (fun E=>by have:=a.out.fb _ (aQ E);omega);have f6:=am Q 1;have d6:w6.cell? ⟨w.heap.size+1,1,none⟩=some (slice d.ao B.length d.cap):=(by rw[aj Q];rfl);have z6:=ae Q)
      all_goals
       rw[al.out,qQ]at C
       have af:=(show Hid _ from a.out.addB (m:=(lP B).n+1) u C (fun s H=>by
        rcases SB.1 H with h | h
        ·exact a.out.s s h
        ·rw[Se.1 h];exact HT.out) (by simp[lP,kT]))
       have ag:Hid ((B++[(⟨some ⟨F,G,none⟩,0,D.drop 1⟩:Sl)]).map (·.L)=bn f H M (k+1)):=(by show _=_;rw[SF];exact I.out);clear C u Q;go_wp2;go_roundg (H.length-(k+1))
       case measure=>omega
       case rel=>exact⟨k+1,V++[x],⟨ar,J⟩,B++[⟨some ⟨F,G,none⟩,0,D.drop 1⟩],⟨ax,K⟩,by omega,rfl,by go_num,⟨by simp;omega,by simp;omega⟩,P,ag,af⟩
     ·have HT:Hid _:=pH.tail an.out;have al:Hid (D.length-1=(D.drop 1).length):=(by show _=_;simp);(go_upto_region 8 with fail);go_region_law (refine bR X5 rfl (.tmp 44) (.tmp 50) 218 rfl iL (slice none 0 0) 24 d (lP B) [slice (some ⟨F,G+1,none⟩) (D.length-1) (b-1)] underlying218 bx Z ac ad rfl So (by rw[a4.out];simp[Act.eval]) bp bo.out (by omega) (by simp[Act.eval]) rfl (by simp[Value.oneCell']) ?_;intro ax K w6 C u;have Q:=u.kept.get a.out.c (fun E=>by have:=a.out.fb _ (aQ E);omega);have f6:=am Q 1;have d6:w6.cell? ⟨w.heap.size+1,1,none⟩=some (slice d.ao B.length d.cap):=(by rw[aj Q];rfl);have z6:=ae Q)
      all_goals
       rw[al.out,show([slice (some ⟨F,G+1,none⟩) (D.drop 1).length (b-1)]:List Value)=FC ⟨some ⟨F,G+1,none⟩,b-1,D.drop 1⟩ from rfl,qQ]at C
       have af:=(show Hid _ from a.out.addB (m:=(lP B).n+1) u C (fun s H=>by
        rcases SB.1 H with h | h
        ·exact a.out.s s h
        ·rw[Se.1 h];exact HT.out) (by simp[lP,kT]))
       have ag:Hid ((B++[(⟨some ⟨F,G+1,none⟩,b-1,D.drop 1⟩:Sl)]).map (·.L)=bn f H M (k+1)):=(by show _=_;rw[SF];exact I.out);clear C u Q;go_wp2;go_roundg (H.length-(k+1))
       case measure=>omega
       case rel=>exact⟨k+1,V++[x],⟨ar,J⟩,B++[⟨some ⟨F,G+1,none⟩,b-1,D.drop 1⟩],⟨ax,K⟩,by omega,rfl,by go_num,⟨by simp;omega,by simp;omega⟩,P,ag,af⟩
  ·have e:k=H.length:=(by omega);subst e;have cs:¬(H.length:Int)<H.length:=by omega
   have r0:wr.cell? ⟨w.heap.size,0,none⟩=some (slice none 0 0):=(by rw[aj o.out.r];rfl);have r1:wr.cell? ⟨w.heap.size,1,none⟩=some (slice none 0 0):=(by rw[aj o.out.r];rfl);have r2:=am o.out.r 0;have r3:=am o.out.r 1;have c0:wr.cell? ⟨w.heap.size+1,0,none⟩=some (slice l.ao V.length l.cap):=(by rw[aj o.out.c];rfl);have c1:wr.cell? ⟨w.heap.size+1,1,none⟩=some (slice d.ao B.length d.cap):=(by rw[aj o.out.c];rfl);have db:=ae o.out.c;have c9:=ae o.out.r;have ba:Hid (∀q,l.blk=some q->q≠w.heap.size):=fun q E=>by have:=o.out.fv q E;omega
   have bc:Hid (∀q,d.blk=some q->q≠w.heap.size):=fun q E=>by have:=o.out.fb q E;omega
   have be:Hid (bE y f H H.length=V):=HV.out.symm;go_wp2;obtain⟨x0,x1⟩:=Kz o.out.r (slice l.ao V.length l.cap) (slice d.ao B.length d.cap);have kf:aa [] w ((wr.setCell ⟨w.heap.size,0,none⟩ (slice l.ao V.length l.cap)).setCell ⟨w.heap.size,1,none⟩ (slice d.ao B.length d.cap)):=(O.out.setCell (RZ (by simp)) _).setCell (RZ (by simp)) _;exact Sa (v:=agg #[slice l.ao V.length l.cap,slice d.ao B.length d.cap]) (by simp[results,results178,go_sem,x0,x1]) rfl ⟨l,d,B,by rw[be.out],HB.out,o.out.s,by rw[be.out];exact⟨(o.out.v.Ws ba.out _ _).Ws ba.out _ _,fun q E=>(by have:=o.out.fv q E;omega),kf⟩,⟨(o.out.b.Ws bc.out _ _).Ws bc.out _ _,fun q E=>(by have:=o.out.fb q E;omega),kf⟩⟩
end Go.Proofs.YtnbhnocdhbcbcaaGreat
