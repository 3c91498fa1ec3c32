import Derived.BigQuiet
import Derived.Deep.RegionLaw
import Derived.Test.YtpddjjabfbfifaaGreatG14
namespace Go.Proofs.YtpddjjabfbfifaaGreat
open Go.RowKit Tryz
set_option maxRecDepth 100000
set_option maxHeartbeats 40000000
variable{L:List dj}{d:Nat}{a zt:World}{y5:Option Addr}{z7:Nat->Int}{D:List ByteArray}{y6:Hd}{y7:ByteArray}(zb x:Nat)(i H:List ByteArray)(y8:Option Addr)(I y:Nat)(l:List Tk)(b:List dj)(o:Option Addr)(v:Nat)(w:List Sm)(z4:Option Addr)(M:Int)(N:ByteArray)(g z0:Int)(T:Nat)(S:World)(n:List Nat)(z3:Option Addr)(k:List ByteArray)(z2 f:Nat)
def Qk:dj:=⟨0,0,0,⟨#[]⟩,0,0⟩
def bO(P:List dj)(i:Nat):dj:=P.getD i Qk
theorem GM(h:f<b.length):b[f]?=some (bO b f):=by
 unfold bO;rw[QP,QO h];rfl
def xH(P:List dj)(i:Nat):Bool:=((bO P i).ref == -1)
def ic(P:List dj):Int:=match (List.range P.length).find? (xH P) with
 | some i=>i
 | none=>-1
theorem Ir(b:d<L.length)(h:xH L d=true)(c:∀j,j<d->xH L j=false):ic L=d:=by
 have e:(List.range L.length).find? (xH L)=some d:=by
  rw[Si];exact⟨h,Q9.2 b,fun j a=>by rw[c j a];rfl⟩
 unfold ic;rw[e]
theorem Ll(b:∀j,j<L.length->xH L j=false):ic L=-1:=by
 have e:(List.range L.length).find? (xH L)=none:=by
  rw[Sj];intro j a;rw[b j (Q9.1 a)];simp
 unfold ic;rw[e]
theorem Eg:(ic b=-1/\∀j,j<b.length->(bO b j).ref≠-1)∨∃k,k<b.length/\ic b=(k:Int):=by
 unfold ic
 cases h:(List.range b.length).find? (xH b) with
 | none =>
  refine Q0 ⟨rfl,fun j a e=>?_⟩;rw[Sj]at h;exact h j (Q9.2 a) (by unfold xH;rw[e];rfl)
 | some i=>exact QU ⟨i,Q9.1 (Ry h),rfl⟩
theorem cm.step(h:cm a y5 6 kU L)(k:Nat)(b:k<L.length):∃g,y5=some ⟨g,0,none⟩/\g<a.heap.size/\a.cell? ⟨g,k*6,none⟩=some (.int .i64 (bO L k).ref)/\a.cell? ⟨g,k*6+1,none⟩=some (.int .i64 ((bO L k).back:Nat))/\a.cell? ⟨g,k*6+2,none⟩=some (.int .i64 ((bO L k).need:Nat)) /\
  a.cell? ⟨g,k*6+3,none⟩=some (.string (bO L k).file)/\a.cell? ⟨g,k*6+4,none⟩=some (.int .i64 (bO L k).line)/\a.cell? ⟨g,k*6+5,none⟩=some (.int .i64 (bO L k).col):=by
 obtain⟨g,e,d,c⟩:=h k _ (GM L k b);exact⟨g,e,d,c 0 _ rfl,c 1 _ rfl,c 2 _ rfl,c 3 _ rfl,c 4 _ rfl,c 5 _ rfl⟩
theorem Iq(q:cm S o 6 kU b)(z:b.length<=100000000) :
  Calls prog 130 #[.agg #[.slice o b.length v,.int .i64 M,.string N,.int .i64 g,.int .i64 z0]] S fun e w=>e=.returned (.int .i64 (ic b))/\ab [] S w:=by
 obtain⟨W,f⟩:∃W,Hid (S.alloc (.cells #[.slice o b.length v,.int .i64 M,.string N,.int .i64 g,.int .i64 z0] 122)=W):=⟨_,rfl⟩
 have n:W.heap[S.heap.size]?=some (.cells #[.slice o b.length v,.int .i64 M,.string N,.int .i64 g,.int .i64 z0] 122 (0,0)):=by rw[<-f.out];exact QR _ _
 have a:Hid (ab [] S W):=by show ab [] S W;rw[<-f.out];exact(ab.refl [] _).alloc _
 have u:=hI (q.Va a.out);have C:W.cell? ⟨S.heap.size,0,none⟩=some (.slice o b.length v):=by rw[aa n];rfl
 have A:=ae n;clear q;go_enter func130,ntmps130
 go_upto_region 1 with fail
 rw[f.out];go_wp2
 go_loopg [3] b.length (fun p i wr=>∃k:Nat,k<=b.length/\p=b.length-k/\i=.int .i64 k/\Hid (∀j,j<k->xH b j=false)/\wr=W)
 case atStart=>exact⟨0,by omega,rfl,rfl,(fun j x=>by omega),rfl⟩
 case round =>
  obtain⟨k,y,B,rfl,h,rfl⟩:=hrel
  by_cases c:k<b.length
  ·have l:(k:Int)<(b.length:Int):=by omega
   obtain⟨p,rfl,t,D,-⟩:=cm.step u.out k c;have s:Hid (xH b k=((bO b k).ref == -1)):=rfl;generalize (bO b k).ref=r at *
   cases m:(r == -1)
   ·have d:=hI (dU h.out (by rw[s.out,m]))
    go_wp2
    go_roundg (b.length-(k+1))
    case measure=>omega
    case rel=>exact⟨k+1,by omega,rfl,by go_num,d,rfl⟩
   ·have d:Hid (ic b=k):=Ir c (by rw[s.out,m]) h.out
    go_wp2;go_ret;exact⟨QM d.out.symm,a.out⟩
  ·have d:Hid (ic b=-1):=Ll (fun j x=>h.out j (by omega))
   have l:¬(k:Int)<(b.length:Int):=by omega
   go_wp2;go_ret;exact⟨QM d.out.symm,a.out⟩
def qH(rec:Nat->Int):Nat->Nat->Int
 | 0,b=>b
 | k+1,b=>if b=0 then -1 else if rec (b-1)<0 then -1 else qH rec k (rec (b-1)).toNat
def zF(P:List dj):Nat->Nat->Int
 | 0,_=>0
 | f+1,i=>qH (zF P f) (bO P i).need i
theorem Nf(a:∀i,z7 i<=(i:Int))(k:Nat):∀b,qH z7 k b<=(b:Int):=by
 induction k with
 | zero=>intro b;exact TI _
 | succ k c =>
  intro b;rw[qH]
  split
  ·omega
  ·split
   ·omega
   ·have e:=c (z7 (b-1)).toNat
    have d:=a (b-1);omega
theorem zG:∀i,zF b f i<=(i:Int):=by
 induction f with
 | zero=>intro i;show(0:Int)<=i;omega
 | succ f a=>intro i;rw[zF];exact Nf a _ _
theorem vI{c:Nat->Int}(d:∀i,z7 i<=(i:Int))(k:Nat):∀b,(∀i,i<b->z7 i=c i)->qH z7 k b=qH c k b:=by
 induction k with
 | zero=>intro b _;rfl
 | succ k e =>
  intro b h;rw[qH,qH]
  by_cases a:b=0
  ·rw[QV a,QV a]
  ·rw[QS a,QS a,<-h (b-1) (by omega)]
   split
   ·rfl
   ·next f =>
    have:=d (b-1);exact e _ (fun i g=>h i (by omega))
theorem G7:∀f g i,i<f->i<g->zF b f i=zF b g i:=by
 intro f
 induction f with
 | zero=>intro g i h;omega
 | succ f a =>
  intro g i d e
  cases g with
  | zero=>omega
  | succ g =>
   rw[zF,zF];exact vI (zG b f) _ _ (fun j c=>a g j (by omega) (by omega))
def dS(P:List dj)(i:Nat):Int:=zF P (i+1) i
theorem vL:dS b f=qH (dS b) (bO b f).need f:=by
 unfold dS;rw[zF];exact vI (zG b f) _ _ (fun j a=>G7 b f (j+1) j a (by omega))
theorem vM:dS b f<=(f:Int):=zG b _ f
def MZ(P:List dj):Prop:=∀i,(bO P i).need<=100000
theorem tI(hl:b.length<=100000000)(Q:MZ b)(f:Nat):∀(i:Nat) (w:World),i<f->i<b.length->cm w o 6 kU b ->
  Calls prog 132 #[.agg #[.slice o b.length v,.int .i64 M,.string N,.int .i64 g,.int .i64 z0],.int .i64 i] w fun e w'=>e=.returned (.int .i64 (dS b i))/\ab [] w w':=by
 induction f with
 | zero=>intro i w h;omega
 | succ f G =>
  intro i w Y L I;have B:=hI G;clear G;obtain⟨W,y⟩:∃W,Hid (w.alloc (.cells #[.slice o b.length v,.int .i64 M,.string N,.int .i64 g,.int .i64 z0] 122)=W):=⟨_,rfl⟩
  have x:W.heap[w.heap.size]?=some (.cells #[.slice o b.length v,.int .i64 M,.string N,.int .i64 g,.int .i64 z0] 122 (0,0)):=by rw[<-y.out];exact QR _ _
  have j:Hid (ab [] w W):=by show ab [] w W;rw[<-y.out];exact(ab.refl [] _).alloc _
  have H:=hI (I.Va j.out);have p0:W.cell? ⟨w.heap.size,0,none⟩=some (.slice o b.length v):=by rw[aa x];rfl
  have hz:=ae x;have ac:(i:Int)<(b.length:Int):=by omega
  obtain⟨X,rfl,C,-,-,K,-⟩:=cm.step H.out i L;have HB:=hI x;have D:=hI (vL b i);have af:=Q i;generalize (bO b i).need=n at *;generalize dS b i=R at *;clear I x;go_enter func132,ntmps132
  go_upto_region 1 with fail
  rw[y.out];go_wp2;clear K C
  go_loopg [6,7] n (fun m S O wr=>∃(k t:Nat),k<=n/\m=n-k/\S=.int .i64 t/\O=.int .i64 k/\t<=i/\Hid (R=qH (dS b) (n-k) t)/\Hid (ab [] W wr))
  case atStart=>exact⟨0,i,by omega,rfl,rfl,rfl,by omega,D,ab.refl _ _⟩
  case round =>
   obtain⟨k,t,hk,hm,rfl,rfl,hb,a,u⟩:=hrel
   by_cases V:k<n
   ·have ad:(k:Int)<(n:Int):=by omega
    obtain⟨d,P⟩:∃d,n-k=d+1:=⟨n-k-1,by omega⟩
    have z:n-(k+1)=d:=by omega
    rw[P,qH]at a;have c:=hI (j.out.trans u.out)
    cases t with
    | zero =>
     rw[QV rfl]at a;go_wp2;go_ret;exact⟨QM a.out.symm,c.out⟩
    | succ q =>
     rw[QS (by omega),SB]at a;have p:=u.out.get HB.out (by simp);have r0:wr.cell? ⟨w.heap.size,0,none⟩=some (.slice (some ⟨X,0,none⟩) b.length v):=by rw[aa p];rfl
     have r1:wr.cell? ⟨w.heap.size,1,none⟩=some (.int .i64 M):=by rw[aa p];rfl
     have r2:wr.cell? ⟨w.heap.size,2,none⟩=some (.string N):=by rw[aa p];rfl
     have r3:wr.cell? ⟨w.heap.size,3,none⟩=some (.int .i64 g):=by rw[aa p];rfl
     have r4:wr.cell? ⟨w.heap.size,4,none⟩=some (.int .i64 z0):=by rw[aa p];rfl
     have U:=ae p;have E:=hI (B.out q wr (by omega) (by omega) (cm.Va H.out u.out));have T:=vM b q;have J:((q:Int)+1==0)=false:=by simp;omega
     generalize dS b q=r at *
     by_cases F:r<0
     ·rw[QV F]at a
      go_wp2_with (go_at_call 132;refine QT E.out ?_;rintro e Z ⟨rfl,s⟩;have l:=hI (c.out.trans s);clear s);go_ret;exact⟨QM a.out.symm,l.out⟩
     ·rw[QS F]at a
      obtain⟨A,rfl⟩:∃A:Nat,r=A:=⟨r.toNat,by omega⟩
      rw[R9,<-z]at a;go_wp2_with (go_at_call 132;refine QT E.out ?_;rintro e Z ⟨rfl,s⟩;have l:=hI (u.out.trans s);clear s)
      go_roundg (n-(k+1))
      case measure=>omega
      case rel=>exact⟨k+1,A,by omega,rfl,rfl,by go_num,by omega,a,l⟩
   ·have e:k=n:=by omega
    subst e;rw[RV,qH]at a;have c:=hI (j.out.trans u.out);go_wp2;go_ret;exact⟨QM a.out.symm,c.out⟩
def Mq(A B:List ByteArray)(i:Nat):Bool:=((A.getD i ⟨#[]⟩).toList==(B.getD i ⟨#[]⟩).toList)
def ob(A B:List ByteArray):Bool:=(A.length==B.length)&&(List.range A.length).all (Mq A B)
theorem mh(h:f<k.length):k[f]?=some (k.getD f ⟨#[]⟩):=by
 rw[QP,QO h];rfl
theorem CY(r:ge S y8 i)(s:ge S o H)(y:i.length<=1000000000) :
  Calls prog 133 #[.slice y8 i.length v,.slice o H.length T] S fun e E=>e=.returned (.bool (ob i H))/\ab [] S E:=by
 have D:=hI r;have G:=hI s;clear r s
 by_cases c:i.length=H.length
 ·have n:Hid (ob i H=(List.range i.length).all (Mq i H)):=by show _=_;unfold ob;rw[c];simp
  obtain⟨a,b⟩:∃a,Hid (i.length=a):=⟨_,rfl⟩
  have l:Hid (H.length=a):=by show _=_;rw[<-c];exact b.out
  rw[b.out,l.out];rw[b.out]at y n;clear c;go_enter func133,ntmps133;go_wp2
  go_loopg [5] a (fun g A wr=>∃k:Nat,k<=a/\g=a-k/\A=.int .i64 k/\Hid (∀j,j<k->Mq i H j=true)/\Hid (ab [] S wr))
  case atStart=>exact⟨0,by omega,rfl,rfl,(fun j p=>by omega),ab.refl _ _⟩
  case round =>
   obtain⟨k,J,M,rfl,u,m⟩:=hrel
   by_cases d:k<a
   ·have q:(k:Int)<(a:Int):=by omega
    obtain⟨I,rfl,B,L⟩:=(ge.Va D.out m.out) k _ (mh i k (by rw[b.out];exact d));obtain⟨K,rfl,C,N⟩:=(ge.Va G.out m.out) k _ (mh H k (by rw[l.out];exact d));have w:Hid (Mq i H k=((i.getD k ⟨#[]⟩).toList==(H.getD k ⟨#[]⟩).toList)):=rfl;generalize i.getD k ⟨#[]⟩=x at *;generalize H.getD k ⟨#[]⟩=z at *;have h:=hI m.out.drew
    cases t:(x.toList==z.toList)
    ·have f:Hid (ob i H=false):=by
      show _=_
      rw[n.out,Ud];exact⟨k,Q9.2 d,by rw[w.out,t];simp⟩
     go_upto_region 6 with fail
     go_region
     all_goals
      go_wp2;go_ret;exact⟨aD f.out.symm,h.out⟩
    ·have f:Hid (∀j,j<k+1->Mq i H j=true):=fun j p=>by
      by_cases e:j=k
      ·rw[e,w.out,t]
      ·exact u.out j (by omega)
     go_upto_region 6 with fail
     go_region
     all_goals
      go_wp2
      go_roundg (a-(k+1))
      case measure=>omega
      case rel=>exact⟨k+1,by omega,rfl,by go_num,f,h⟩
   ·have f:Hid (ob i H=true):=by
     show _=_
     rw[n.out,Sk];exact fun j p=>u.out j (by have:=Q9.1 p;omega)
    have q:¬(k:Int)<(a:Int):=by omega
    go_wp2;go_ret;exact⟨aD f.out.symm,m.out⟩
 ·have f:Hid (ob i H=false):=by show _=_;unfold ob;simp[c]
  have F:((i.length:Int)==(H.length:Int))=false:=UU (by omega);go_enter func133,ntmps133;go_wp2;go_ret;exact⟨aD f.out.symm,ab.refl _ _⟩
def xb(rec:Nat->Int):Nat->Nat->List Nat->List Nat
 | 0,_,acc=>acc
 | m+1,b,acc=>xb rec m (rec (b-1)).toNat ((b-1) :: acc)
def mI(P:List dj)(i:Nat):List Nat:=xb (dS P) (bO P i).need i []
theorem Mo(c:Nat->Int)(m:Nat):∀b a,(xb c m b a).length=m+a.length:=by
 induction m with
 | zero=>intro b a;simp[xb]
 | succ m d=>intro b a;rw[xb,d];simp;omega
theorem Jw:(mI b f).length=(bO b f).need:=by unfold mI;rw[Mo];simp
theorem N6(j:∀i,z7 i<=(i:Int))(m:Nat):∀b a i,b<=i->0<=qH z7 m b->(∀q∈a,q<i)->∀q∈xb z7 m b a,q<i:=by
 induction m with
 | zero=>intro b a i _ _ h;exact h
 | succ m k =>
  intro b a i l c h q d;rw[qH]at c;rw[xb]at d
  by_cases g:b=0
  ·rw[QV g]at c;omega
  ·rw[QS g]at c
   by_cases f:z7 (b-1)<0
   ·rw[QV f]at c;omega
   ·rw[QS f]at c
    have:=j (b-1);refine k _ _ i (by omega) c (fun q d=>?_) q d
    rcases Ri.1 d with e | e
    ·omega
    ·exact h q e
theorem Mi(h:0<=dS b f):∀q∈mI b f,q<f:=by
 rw[vL]at h;exact N6 (vM b) _ _ _ f (QQ _) h (fun q a=>by cases a)
theorem N2:(jX (List.replicate (v+1) 0++n)).set v (.int .i64 T)=jX (List.replicate v 0++T :: n):=by
 unfold jX
 induction v with
 | zero=>simp
 | succ v a=>rw[TV,Th,To,SA,a];simp[TV]
theorem IL:madeCells (Value.int .i64 0).cells (f*1)=(jX (List.replicate f 0)).toArray:=by
 rw[UY]
 apply Array.ext
 ·rw[Ss];simp[jX]
 ·intro i a b
  have e:(Value.int .i64 0).cells=#[.int .i64 0]:=rfl;simp[madeCells,e,Nat.mod_one,jX]
def nF(w:World)(g:Nat)(L:List Nat):Prop:=w.heap[g]?=some (.cells (jX L).toArray 3 (0,0))
theorem nF.src{L:List Nat}(h:nF a d L):qC a (some ⟨d,0,none⟩) L:=by
 intro k x b;refine⟨d,rfl,ae h,?_⟩;rw[aa h];simp[jX,b]
theorem Jv(hl:b.length<=100000000)(hN:MZ b)(hi:T<b.length)(hS:cm S o 6 kU b)(R:0<=dS b T) :
  Calls prog 102 #[.agg #[.slice o b.length v,.int .i64 M,.string N,.int .i64 g,.int .i64 z0],.int .i64 T] S fun e z=>∃h,e=.returned (.slice (some ⟨h,0,none⟩) (bO b T).need (bO b T).need)/\nF z h (mI b T)/\ab [] S z:=by
 obtain⟨i0,V,D,B,O⟩:=Rd zY;have ap:=hN T;have U:=fun S=>dB (P:=prog) S 26 3 i0 _ underlying26 V D (bO b T).need 1 B (by rw[O];omega) (by omega)
 obtain⟨y,t⟩:∃y,Hid (madeCells (Value.int .i64 0).cells ((bO b T).need*1)=y):=⟨_,rfl⟩
 have ac:Hid (y=(jX (List.replicate (bO b T).need 0)).toArray):=by show _=_;rw[<-t.out,IL]
 rw[t.out]at U;obtain⟨W,K⟩:∃W,Hid (S.alloc (.cells #[.slice o b.length v,.int .i64 M,.string N,.int .i64 g,.int .i64 z0] 122)=W):=⟨_,rfl⟩
 have x:W.heap[S.heap.size]?=some (.cells #[.slice o b.length v,.int .i64 M,.string N,.int .i64 g,.int .i64 z0] 122 (0,0)):=by rw[<-K.out];exact QR _ _
 have k:Hid (ab [] S W):=by show ab [] S W;rw[<-K.out];exact(ab.refl [] _).alloc _
 have HS:=hI (hS.Va k.out);have p0:W.cell? ⟨S.heap.size,0,none⟩=some (.slice o b.length v):=by rw[aa x];rfl
 have hz:=ae x;have al:(T:Int)<(b.length:Int):=by omega
 obtain⟨h,rfl,C,-,-,q2,-⟩:=cm.step HS.out T hi;have HB:=hI x;rw[vL]at R;have H0:=hI R;have F:Hid (xb (dS b) (bO b T).need T []=mI b T):=rfl;have ai:=hI (U W);generalize (bO b T).need=n at *;generalize mI b T=H at *;have I0:Hid (nF (W.alloc (.cells y 3)) W.heap.size (List.replicate n 0++[])):=by show _=_;rw[Rk,ac.out];exact QR _ _
 clear hS x R;go_enter func102,ntmps102
 go_upto_region 1 with fail
 rw[K.out];go_wp2;clear q2 C p0 U
 go_loopg [7,8] n (fun ms bv kv wr=>∃(m d:Nat) (L:List Nat),m<=n/\ms=m/\bv=.int .i64 d/\kv=.int .i64 ((m:Int)-1)/\d<=T/\Hid (0<=qH (dS b) m d)/\Hid (xb (dS b) m d L=H)/\Hid (nF wr W.heap.size (List.replicate m 0++L))/\Hid (ab [] W wr))
 case atStart=>exact⟨n,T,[],by omega,rfl,rfl,by go_num,by omega,H0,F,I0,(ab.refl _ _).alloc _⟩
 case round =>
  obtain⟨m,d,L,hm,af,rfl,rfl,hb,a,u,s,I⟩:=hrel;have E:=hI (k.out.trans I.out)
  cases m with
  | zero =>
   have HE:Hid (nF wr W.heap.size H):=by show nF wr W.heap.size H;have:=s.out;rw[<-u.out];simpa [xb] using this
   go_wp2;go_ret;exact⟨W.heap.size,rfl,HE.out,E.out⟩
  | succ q =>
   rw[qH]at a
   have l:d≠0:=fun e=>by
    have:=a.out;rw[QV e]at this;omega
   obtain⟨c,rfl⟩:∃c,d=c+1:=⟨d-1,by omega⟩
   rw[QS l,SB]at a
   have p:¬dS b c<0:=fun e=>by
    have:=a.out;rw[QV e]at this;omega
   rw[QS p]at a;rw[xb,SB]at u;have j:=I.out.get HB.out (by simp);have r0:wr.cell? ⟨S.heap.size,0,none⟩=some (.slice (some ⟨h,0,none⟩) b.length v):=by rw[aa j];rfl
   have r1:wr.cell? ⟨S.heap.size,1,none⟩=some (.int .i64 M):=by rw[aa j];rfl
   have r2:wr.cell? ⟨S.heap.size,2,none⟩=some (.string N):=by rw[aa j];rfl
   have r3:wr.cell? ⟨S.heap.size,3,none⟩=some (.int .i64 g):=by rw[aa j];rfl
   have r4:wr.cell? ⟨S.heap.size,4,none⟩=some (.int .i64 z0):=by rw[aa j];rfl
   have ax:=ae j;have ar:=ae s.out;have u0:=am s.out q
   have u1:wr.cell? ⟨W.heap.size,q,none⟩=some (.int .i64 0):=by
    rw[aa s.out];simp[jX,List.replicate_succ']
   have an:(q:Int)<(n:Int):=by omega
   have ag:((q:Int)+1-1)=(q:Int):=by omega
   have HC:Hid (∀w,ab [] W w->Calls prog 132 #[.agg #[.slice (some ⟨h,0,none⟩) b.length v,.int .i64 M,.string N,.int .i64 g,.int .i64 z0],.int .i64 c] w fun e z=>e=.returned (.int .i64 (dS b c))/\ab [] w z):=fun w kx=>tI b _ v M N g z0 hl hN (c+1) c w (by omega) (by omega) (cm.Va HS.out kx)
   have G:=vM b c;obtain⟨Z,r⟩:∃Z:Nat,dS b c=Z:=⟨(dS b c).toNat,by omega⟩
   rw[r]at HC u a G;rw[R9]at u a;obtain⟨X,J⟩:∃X,Hid (wr.setCell ⟨W.heap.size,q,none⟩ (.int .i64 (c:Int))=X):=⟨_,rfl⟩
   have f:Hid (ab [] W X):=by show ab [] W X;rw[<-J.out];exact I.out.setCell (QU (by simp)) _
   have Q:Hid (nF X W.heap.size (List.replicate q 0++c :: L)):=by
    show _=_
    rw[<-J.out,ah s.out]
    congr 2
    have:=N2 q c L;rw[<-this];simp
   have i:=f.out.get HB.out (by simp);have x0:X.cell? ⟨S.heap.size,0,none⟩=some (.slice (some ⟨h,0,none⟩) b.length v):=by rw[aa i];rfl
   have x1:X.cell? ⟨S.heap.size,1,none⟩=some (.int .i64 M):=by rw[aa i];rfl
   have x2:X.cell? ⟨S.heap.size,2,none⟩=some (.string N):=by rw[aa i];rfl
   have x3:X.cell? ⟨S.heap.size,3,none⟩=some (.int .i64 g):=by rw[aa i];rfl
   have x4:X.cell? ⟨S.heap.size,4,none⟩=some (.int .i64 z0):=by rw[aa i];rfl
   have xz:=ae i;have A:=hI (HC.out X f.out);clear r p l
   go_upto_region 8 with fail
   rw[J.out];go_wp2_with (go_at_call 132;refine QT A.out ?_;rintro e w1 ⟨rfl,Y⟩;have ad:=hI (f.out.trans Y);have P:=(show Hid (nF w1 W.heap.size (List.replicate q 0++c :: L)) from Y.get Q.out (by simp));clear Y)
   go_roundg q
   case measure=>omega
   case rel=>exact⟨q,Z,c :: L,by omega,rfl,rfl,by go_num,by omega,a,u,P,ad⟩
def kM(T:List Tk)(S:List Sm)(a:Nat)(e:List ByteArray):List ByteArray:=e.filter (fun x=>kV T S x a)
theorem J2(h:f<k.length):kM l w T (k.take (f+1))=kM l w T (k.take f)++(if kV l w k[f] T=true then [k[f]] else []):=by
 unfold kM;rw[RC h,RU]
 congr 1
 cases a:kV l w k[f] T
 ·rw[Sr (by rw[a];simp)];rfl
 ·rw[SF (p:=fun x=>kV l w x T) a];rfl
theorem qV(W:fz S zb l o v w z4 T)(Z:nJ l w x)(U:ge S y8 H)(hl:H.length<=900000000) :
  Calls prog 241 #[.pointer (some ⟨zb,0,none⟩),.int .i64 x,.slice y8 H.length y] S fun e p=>∃a,e=.returned (.slice a.ao (kM l w x H).length a.cap)/\gw S p a (aB (kM l w x H)):=by
 have HD:=hI W;have b:=hI Z.ok;have G:=hI U;have P:Hid (gw S S ⟨none,0⟩ (aB [])):=⟨QY _ _ _ _,(by intro k R;cases R),ab.refl _ _⟩;obtain⟨iS,L,u,A,r⟩:=Rd js;clear W Z U;go_enter func241,ntmps241;go_wp2
 go_loopg [7,8] H.length (fun g ac i wr=>∃(k:Nat) (a:Hd) (O:List ByteArray),k<=H.length/\g=H.length-k/\ac=.slice a.ao O.length a.cap/\i=.int .i64 k/\O.length<=k/\Hid (O=kM l w x (H.take k))/\Hid (gw S wr a (aB O)))
 case atStart=>exact⟨0,⟨none,0⟩,[],by omega,rfl,rfl,rfl,by simp,by show _=_;simp[kM],P⟩
 case round =>
  obtain⟨k,a,O,R,hg,rfl,rfl,hO,Y,q⟩:=hrel
  by_cases B:k<H.length
  ·have ad:(k:Int)<(H.length:Int):=by omega
   obtain⟨N,rfl,h,C⟩:=(ge.Va G.out q.out.kept) k H[k] (QO B);have c:=hI (J2 l w x H k B);rw[<-Y.out]at c;have J:=hI (AG zb x H[k] l o v w z4 T wr (fz.Va HD.out q.out.kept) b.out.m b.out.s b.out.t b.out.v);have E:Hid (∀p,ab [] wr p->p.cell? ⟨N,k,none⟩=some (.string H[k])/\N<p.heap.size):=fun p V=>⟨by rw[Q5 (V.block N h (by simp))];exact C,QW h V.size⟩
   generalize H[k]=D at *;obtain⟨K,F⟩:∃K,Hid (kV l w D x=K):=⟨_,rfl⟩
   rw[F.out]at J c
   cases K
   ·have n:Hid (O=kM l w x (H.take (k+1))):=by have:=c.out;rw[QS (by simp),Rk]at this;exact this.symm
    go_wp2_with (go_at_call 173;refine QT J.out ?_;rintro e X ⟨rfl,j⟩;have d:=hI (q.out.Va j);clear j)
    go_roundg (H.length-(k+1))
    case measure=>omega
    case rel=>exact⟨k+1,a,O,by omega,rfl,rfl,by go_num,by omega,n,d⟩
   ·have n:Hid (O++[D]=kM l w x (H.take (k+1))):=by have:=c.out;rw[QV rfl]at this;exact this.symm
    go_upto_region 7 with (go_at_call 173;refine QT J.out ?_;rintro e X ⟨rfl,j⟩)
    have d:=hI (q.out.Va j);obtain⟨d0,d1⟩:=E.out X j;have Q:=d.out.own;have M:(aB O).n<=900000000:=by show O.length<=_;omega
    clear j C h;go_wp2_with (at_builtin;refine bN _ rfl (.tmp 24) (.tmp 29) 61 rfl iS (.string ⟨#[]⟩) 16 a (aB O) [.string D] underlying61 L u A r rfl Rb rfl Q M (by omega) rfl rfl (by simp[Value.oneCell']) ?_;intro h5 w5 f z;rw[dr]at f;have I:=hI (d.out.grew z f);clear f z)
    go_roundg (H.length-(k+1))
    case measure=>omega
    case rel=>exact⟨k+1,h5,O++[D],by omega,rfl,by simp[aB],by go_num,by simp;omega,n,I⟩
  ·have e:k=H.length:=by omega
   subst e;have n:Hid (kM l w x H=O):=by show _=_;rw[Y.out,RI]
   go_wp2;go_ret;exact⟨a,by rw[n.out];rfl,by rw[n.out];exact q.out⟩
def DN(T:List Tk)(S:List Sm)(a:Nat)(Y:List ByteArray)(x:ByteArray):Bool:=Y.all (fun y=>hQ T S x y a)
def tK(T:List Tk)(S:List Sm)(a:Nat)(E F:List ByteArray):Bool:=(kM T S a E).all (DN T S a (kM T S a F))
theorem FX{p:ByteArray->Bool}(h:f<D.length)(a:p D[f]=false):D.all p=false:=by
 rw[Ud];exact⟨D[f],Ra h,by rw[a];simp⟩
theorem A8{p:ByteArray->Bool}(c:d=D.length)(h:∀k (a:k<D.length),k<d->p D[k]=true):D.all p=true:=by
 rw[Sk];intro x b;obtain⟨k,a,e⟩:=RZ b;rw[<-e];exact h k a (by omega)
theorem zn:(kM l w T k).length<=k.length:=Sb _ _
theorem Ht(T:List Tk)(l:Option Addr)(J:Nat)(S:List Sm)(d:Option Addr)(I:Nat)(w:World)(L:fz w zb T l J S d I)(M:nJ T S x)(hE:ge w z4 i)(hF:ge w z3 H)(hl:i.length<=900000000)(P:H.length<=900000000) :
  Calls prog 214 #[.pointer (some ⟨zb,0,none⟩),.int .i64 x,.slice z4 i.length z2,.slice z3 H.length f] w fun e E=>e=.returned (.bool (tK T S x i H))/\ab [] w E:=by
 have HD:=hI L;have V:=hI M;have u:=hI (qV zb x i z4 z2 T l J S d I w L M hE hl);have z:Hid (∀c,ab [] w c->Calls prog 241 #[.pointer (some ⟨zb,0,none⟩),.int .i64 x,.slice z3 H.length f] c fun e E=>∃h',e=.returned (.slice h'.ao (kM T S x H).length h'.cap)/\gw c E h' (aB (kM T S x H))):=fun c G=>qV zb x H z3 f T l J S d I c (L.Va G) M (hF.Va G) P
 have HR:Hid (tK T S x i H=(kM T S x i).all (DN T S x (kM T S x H))):=rfl;have an:=zn T S x i;have ai:=zn T S x H;generalize kM T S x i=X at *;generalize kM T S x H=Y at *;clear L M hE hF;go_enter func214,ntmps214
 go_upto_region 2 with (go_at_call 241;refine QT u.out ?_;rintro e w1 ⟨h1,rfl,K⟩)
 have F:=hI (z.out w1 K.kept)
 go_upto_region 3 with (go_at_call 241;refine QT F.out ?_;rintro e w2 ⟨h2,rfl,N⟩)
 have HX:=(show Hid _ from(K.own.srcX.Va N.kept));have HY:=hI N.own.srcX;have s:=hI (K.kept.trans N.kept);clear K N u z F;obtain⟨a1,c1⟩:=h1;obtain⟨a2,c2⟩:=h2;go_wp2
 go_loopg [11] X.length (fun g ac wr=>∃k:Nat,k<=X.length/\g=X.length-k/\ac=.int .i64 k/\Hid (∀j (n:j<X.length),j<k->DN T S x Y X[j]=true)/\Hid (ab [] w2 wr))
 case atStart=>exact⟨0,by omega,rfl,rfl,(fun j _ n=>by omega),ab.refl _ _⟩
 case round =>
  obtain⟨k,hk,hg,rfl,HN,HK⟩:=hrel
  by_cases B:k<X.length
  ·have R:(k:Int)<(X.length:Int):=by omega
   obtain⟨Q,eX,A,qX⟩:=HX.out k X[k] (QO B);replace eX:a1=some ⟨Q,0,none⟩:=eX;subst eX;have ad:Hid (DN T S x Y X[k]=false->tK T S x i H=false):=fun h=>by rw[HR.out];exact FX k B h
   have af:Hid (DN T S x Y X[k]=true->∀j (n:j<X.length),j<k+1->DN T S x Y X[j]=true):=fun h j n h2=>by
    by_cases e:j=k
    ·subst e;exact h
    ·exact HN.out j n (by omega)
   generalize X[k]=b at *;go_wp2
   go_loopg [12] Y.length (fun g ac wr=>∃m:Nat,m<=Y.length/\g=Y.length-m/\ac=.int .i64 m/\Hid (∀j (n:j<Y.length),j<m->hQ T S b Y[j] x=true)/\Hid (ab [] w2 wr))
   case atStart=>exact⟨0,by omega,rfl,rfl,(fun j _ n=>by omega),HK⟩
   case round =>
    obtain⟨m,hm,al,rfl,D,a⟩:=hrel
    by_cases r:m<Y.length
    ·have Z:(m:Int)<(Y.length:Int):=by omega
     obtain⟨gY,U,ar,qY⟩:=(ge.Va HY.out a.out) m Y[m] (QO r);replace U:a2=some ⟨gY,0,none⟩:=U;subst U;have ax:wr.cell? ⟨Q,k,none⟩=some (.string b):=by rw[Q5 (a.out.block Q A (by simp))];exact qX
     have ag:=QW A a.out.size;have v:Hid (∀c,ab [] wr c->Calls prog 94 #[.pointer (some ⟨zb,0,none⟩),.string b,.string Y[m],.int .i64 x] c fun e E=>e=.returned (.bool (hQ T S b Y[m] x))/\ab [] c E):=fun c G=>vH zb x b Y[m] T l J S d I c (fz.Va HD.out ((s.out.trans a.out).trans G)) V.out
     have q:Hid (hQ T S b Y[m] x=false->DN T S x Y b=false):=fun h=>FX (p:=fun y=>hQ T S b y x) m r h
     have o:Hid (hQ T S b Y[m] x=true->∀j (n:j<Y.length),j<m+1->hQ T S b Y[j] x=true):=fun h j n h2=>by
      by_cases e:j=m
      ·subst e;exact h
      ·exact D.out j n (by omega)
     generalize Y[m]=y at *;obtain⟨W,O⟩:∃W,Hid (hQ T S b y x=W):=⟨_,rfl⟩
     rw[O.out]at v q o
     go_upto_region 9 with fail
     go_region_with (go_at_call 94;refine(v.out _ (by exact(ab.refl [] wr).drew)).mono ?_;rintro e w3 ⟨rfl,k3⟩)
     all_goals
      have C:=(show Hid _ from(a.out.drew).trans k3)
      cases W
      ·have t:=hI (ad.out (q.out rfl))
       go_wp2;go_ret;exact⟨aD t.out.symm,s.out.trans C.out⟩
      ·have t:=hI (o.out rfl)
       go_wp2
       go_roundg (Y.length-(m+1))
       case measure=>omega
       case rel=>exact⟨m+1,by omega,rfl,by go_num,t,C⟩
    ·have e:m=Y.length:=by omega
     have t:=hI (af.out (A8 e D.out));have Z:¬(m:Int)<(Y.length:Int):=by omega
     go_wp2
     go_roundg (X.length-(k+1))
     case measure=>omega
     case rel=>exact⟨k+1,by omega,rfl,by go_num,t,a⟩
  ·have e:k=X.length:=by omega
   have t:Hid (tK T S x i H=true):=by show _=_;rw[HR.out];exact A8 e HN.out
   have R:¬(k:Int)<(X.length:Int):=by omega
   go_wp2;go_ret;exact⟨aD t.out.symm,s.out.trans HK.out⟩
structure Sl where
 ao:Option Addr
 cap:Nat
 L:List ByteArray
def Fd(s:Sl):List Value:=[.slice s.ao s.L.length s.cap]
theorem vv(s:Sl):(Fd s).length=1:=rfl
def lz(A:List Sl):dN:=kT 61 1 Fd A
theorem qu(L:List Sl)(x:Sl):(⟨(lz L).e,(lz L).size,(lz L).n+1,(lz L).xs++Fd x⟩:dN)=lz (L++[x]):=gM _ _ _ _ _
structure pq(w:World)(s:Sl):Prop where
 src:∀(k:Nat) (x:ByteArray),s.L[k]?=some x->∃g o,s.ao=some ⟨g,o,none⟩/\g<w.heap.size/\w.cell? ⟨g,o+k,none⟩=some (.string x)
 nil:s.ao=none->s.L.length=0/\s.cap=0
 le:s.L.length<=s.cap
theorem pq.Va{s:Sl}(h:pq a s)(k:ab [] a zt):pq zt s :=
 ⟨fun j x c=>by
  obtain⟨g,o,e,b,d⟩:=h.src j x c;exact⟨g,o,e,QW b k.size,by rw[Q5 (k.block g b (by simp))];exact d⟩,h.nil,h.le⟩
def o8(w:World)(A:List Sl):Prop:=∀s∈A,pq w s
theorem o8.Va{A:List Sl}(h:o8 a A)(k:ab [] a zt):o8 zt A:=fun s b=>(h s b).Va k
theorem GX:(⟨T,z2,none⟩:Addr).add f=⟨T,z2+f,none⟩:=by
 simp only[Addr.add]
 split
 ·next h=>subst h;rfl
 ·rfl
theorem pq.cells{s:Sl}(h:pq a s):∀d,s.ao=some d->∀j u,(cN s.L)[j]?=some u->a.cell? (d.add j)=some u:=by
 intro d e j u b;rw[cN,Rp]at b
 cases f:s.L[j]? with
 | none=>rw[f]at b;cases b
 | some x =>
  rw[f]at b
  cases b
  obtain⟨g,o,i,-,c⟩:=h.src j x f;rw[e]at i
  cases i
  rw[GX];exact c
theorem gw.sl(b:gw a zt y6 (aB D)):pq zt ⟨y6.ao,y6.cap,D⟩ :=
 ⟨fun k x d=>by
  obtain⟨g,e,f,c⟩:=b.own.srcX k x d;exact⟨g,0,e,f,by rw[SG];exact c⟩,b.none,b.le⟩
def wo(V:List ByteArray)(x:ByteArray):Nat:=V.findIdx (fun y=>(y.toList==x.toList))
def LY(V:List ByteArray)(A:List (List ByteArray))(x:ByteArray):List ByteArray:=if wo V x<V.length then A.getD (wo V x) [] else [x]
def iU(V:List ByteArray)(A:List (List ByteArray))(e:List ByteArray):List ByteArray:=e.flatMap (LY V A)
theorem Nx(b:d<D.length)(h:(D[d].toList==y7.toList)=true)(c:∀j (a:j<D.length),j<d->(D[j].toList==y7.toList)=false):wo D y7=d:=by
 unfold wo;rw[List.findIdx_eq b];exact⟨h,fun j a=>c j (by omega) a⟩
theorem Ln(f:d=D.length)(c:∀j (a:j<D.length),j<d->(D[j].toList==y7.toList)=false):wo D y7=D.length:=by
 unfold wo;rw[List.findIdx_eq_length];intro y b;obtain⟨j,a,e⟩:=RZ b;rw[<-e];exact c j a (by omega)
theorem LZ(A:List (List ByteArray))(e:List ByteArray)(a:Nat)(h:a<e.length):iU k A (e.take (a+1))=iU k A (e.take a)++LY k A e[a]:=by
 unfold iU;rw[RC h,Sg];simp
def QK:Sl:=⟨none,0,[]⟩
def fQ(A:List Sl)(i:Nat):Sl:=A.getD i QK
theorem GK(A:List Sl)(i:Nat)(h:i<A.length):A[i]?=some (fQ A i):=by
 unfold fQ;rw[QP,QO h];rfl
theorem jK(A:List Sl)(i:Nat)(h:i<A.length):fQ A i∈A:=R2 (GK A i h)
theorem cm.sl{A:List Sl}(h:cm a y5 1 Fd A)(k:Nat)(b:k<A.length):∃g,y5=some ⟨g,0,none⟩/\g<a.heap.size/\a.cell? ⟨g,k,none⟩=some (.slice (fQ A k).ao (fQ A k).L.length (fQ A k).cap):=by
 obtain⟨g,e,d,c⟩:=h k _ (GK A k b);refine⟨g,e,d,?_⟩;have:=c 0 _ rfl;simpa using this
theorem wE(A:List Sl)(k:Nat)(h:k<A.length):(A.map (·.L)).getD k []=(fQ A k).L:=by
 unfold fQ;rw[QP,QP,Rp,QO h];rfl
theorem CK(A:List Sl)(p:Option Addr)(cA:Nat)(E:List ByteArray)(af:Option Addr)(cE:Nat)(w:World)(hV:ge w z3 H)(hA:cm w p 1 Fd A)(ai:o8 w A)(bp:H.length<=A.length)(bf:A.length<=100000)(hE:ge w af E)(bo:E.length<=10000)(ar:∀s∈A,s.L.length<=10000) :
  Calls prog 179 #[.agg #[.slice z3 H.length f,.slice p A.length cA],.slice af E.length cE] w fun e r=>∃c,e=.returned (.slice c.ao (iU H (A.map (·.L)) E).length c.cap)/\gw w r c (aB (iU H (A.map (·.L)) E)):=by
 obtain⟨W,HW⟩:∃W,Hid (w.alloc (.cells #[.slice z3 H.length f,.slice p A.length cA] 271)=W):=⟨_,rfl⟩
 have BW:W.heap[w.heap.size]?=some (.cells #[.slice z3 H.length f,.slice p A.length cA] 271 (0,0)):=by rw[<-HW.out];exact QR _ _
 have G:Hid (ab [] w W):=by show ab [] w W;rw[<-HW.out];exact(ab.refl [] _).alloc _
 have HB:=hI BW;have HV:=hI hV;have HA:=hI hA;have aT:=hI ai;have HE:=hI hE;have a6:=hI ar;have bs:Hid (gw w W ⟨none,0⟩ (aB [])):=⟨QY _ _ _ _,(by intro k Q;cases Q),G.out⟩;obtain⟨iS,ad,v,C,B⟩:=Rd js;have ac:Hid (([]:List ByteArray)=iU H (A.map (·.L)) (E.take 0)):=by show _=_;simp[iU]
 obtain⟨M,ap⟩:∃M,Hid (A.map (·.L)=M):=⟨_,rfl⟩
 rw[ap.out]at ac ⊢;have a4:Hid (∀k,k<A.length->M.getD k []=(fQ A k).L):=fun k Q=>by rw[<-ap.out];exact wE A k Q
 clear hV hA ai hE ar
 have a2:Hid (∀wr,ab [] w wr->wr.heap[w.heap.size]?=W.heap[w.heap.size]?->wr.cell? ⟨w.heap.size,0,none⟩=some (.slice z3 H.length f)/\wr.cell? ⟨w.heap.size,1,none⟩=some (.slice p A.length cA)/\w.heap.size<wr.heap.size):=fun wr _ e=>by
  rw[HB.out]at e;exact⟨by rw[aa e];rfl,by rw[aa e];rfl,ae e⟩
 go_enter func179,ntmps179
 go_upto_region 1 with fail
 rw[HW.out];go_wp2
 go_loopg [5,6] E.length (fun g o i wr=>∃(k:Nat) (c:Hd) (O:List ByteArray),k<=E.length/\g=E.length-k/\o=.slice c.ao O.length c.cap/\i=.int .i64 k/\O.length<=10000*k/\Hid (O=iU H M (E.take k))/\Hid (gw W wr c (aB O)))
 case atStart=>exact⟨0,⟨none,0⟩,[],by omega,rfl,rfl,rfl,by simp,ac,⟨QY _ _ _ _,(by intro k Q;cases Q),ab.refl _ _⟩⟩
 case round =>
  obtain⟨k,c,O,Q,hg,rfl,rfl,hO,HO,al⟩:=hrel
  by_cases Y:k<E.length
  ·have bg:(k:Int)<(E.length:Int):=by omega
   obtain⟨gE,rfl,T,a1⟩:=HE.out k E[k] (QO Y);have P:=hI (LZ H M E k Y);rw[<-HO.out]at P;have az:Hid (∀r,ab [] w r->r.cell? ⟨gE,k,none⟩=some (.string E[k])/\gE<r.heap.size):=fun r V=>⟨by rw[Q5 (V.block gE T (by simp))];exact a1,QW T V.size⟩
   generalize E[k]=x at *;have an:Hid (LY H M x=if wo H x<H.length then M.getD (wo H x) [] else [x]):=rfl;go_wp2
   go_loopg [7] (H.length) (fun g i wr=>∃q:Nat,q<=H.length/\g=H.length-q/\i=.int .i64 q/\Hid (∀j (hj:j<H.length),j<q->(H[j].toList==x.toList)=false)/\Hid (gw W wr c (aB O)))
   case atStart=>exact⟨0,by omega,rfl,rfl,(fun j _ hj=>by omega),al⟩
   case round =>
    obtain⟨q,hq,be,rfl,N,m⟩:=hrel;have d:=hI (G.out.trans m.out.kept);have a3:=hI (m.out.kept.get HB.out (by simp));obtain⟨b0,b1,br⟩:=a2.out wr d.out (by rw[a3.out,HB.out]);obtain⟨d0,d1⟩:=az.out wr d.out
    by_cases F:q<H.length
    ·have a5:(q:Int)<(H.length:Int):=by omega
     obtain⟨gV,eV,bk,bl⟩:=(ge.Va HV.out d.out) q H[q] (QO F);subst eV;have X:Hid ((H[q].toList==x.toList)=true->wo H x=q):=fun h=>Nx F h N.out
     have S:Hid ((H[q].toList==x.toList)=false->∀j (hj:j<H.length),j<q+1->(H[j].toList==x.toList)=false):=fun h j hj h2=>by
      by_cases e:j=q
      ·subst e;exact h
      ·exact N.out j hj (by omega)
     generalize H[q]=y at *
     cases hy:(y.toList==x.toList)
     ·have HM:=hI (S.out hy)
      go_upto_region 6 with fail
      go_quiet (fail)
      have b:=hI (m.out.Va ((ab.refl [] wr).drewN nq));go_wp2
      go_roundg (H.length-(q+1))
      case measure=>omega
      case rel=>exact⟨q+1,by omega,rfl,by go_num,HM,b⟩
     ·have ax:=X.out hy
      have t:q<A.length:=by omega
      have bd:(q:Int)<(A.length:Int):=by omega
      obtain⟨gA,eA,Z,ag⟩:=cm.sl (cm.Va HA.out d.out) q t;subst eA;have I:=(show Hid _ from(o8.Va aT.out d.out) (fQ A q) (jK A q t));have a7:=a6.out (fQ A q) (jK A q t)
      have u:Hid (O++(fQ A q).L=iU H M (E.take (k+1))):=by
       show _=_
       rw[P.out,an.out,ax,QV F,a4.out q t]
      have aS:Hid (∀r,ab [] wr r->r.cell? ⟨gA,q,none⟩=some (.slice (fQ A q).ao (fQ A q).L.length (fQ A q).cap)/\gA<r.heap.size):=fun r V=>⟨by rw[Q5 (V.block gA Z (by simp))];exact ag,QW Z V.size⟩
      clear ax;generalize fQ A q=s at *;obtain⟨U,D,sL⟩:=s;simp only at ag I a7 u aS
      go_upto_region 6 with fail
      go_quiet (fail)
      have R:=(ab.refl [] wr).drewN nq;have b:=hI (m.out.Va R);have z:=hI (pq.Va I.out R);have a0:=hI z.out.cells;have bc:Hid (U=none->sL.length=0/\D=0):=z.out.nil;have K:=b.out.own;clear R I;go_wp2_with (at_builtin;refine ed _ rfl (.tmp 38) (.tmp 43) 61 rfl iS (.string ⟨#[]⟩) 16 c (aB O) underlying61 ad v C B rfl Rb rfl K U sL.length D (cN sL) rfl (by simp[aB,cN]) bc.out a0.out (lX sL) (by simp only[aB];omega) (by omega) ?_;intro h5 w5 a l;rw[CR]at a;have J:=hI (b.out.grew l a);clear a l)
      go_roundg (E.length-(k+1))
      case measure=>omega
      case rel=>exact⟨k+1,h5,O++sL,by omega,rfl,by simp[aB],by go_num,by simp;omega,u,J⟩
    ·have eq:q=H.length:=by omega
     have a5:decide ((q:Int)<(H.length:Int))=false:=Sa (by omega);have bj:¬(q:Int)<(H.length:Int):=by omega
     have u:Hid (O++[x]=iU H M (E.take (k+1))):=by
      show _=_
      rw[P.out,an.out,Ln eq N.out,QS (by omega)]
     go_upto_region 6 with fail
     go_quiet (fail)
     have R:=(ab.refl [] wr).drewN nq;have b:=hI (m.out.Va R);have K:=b.out.own;have ba:(aB O).n<=900000000:=by show O.length<=_;omega
     clear R;go_wp2_with (at_builtin;refine bN _ rfl (.tmp 45) (.tmp 50) 61 rfl iS (.string ⟨#[]⟩) 16 c (aB O) [.string x] underlying61 ad v C B rfl Rb rfl K ba (by omega) rfl rfl (by simp[Value.oneCell']) ?_;intro h5 w5 a l;rw[dr]at a;have J:=hI (b.out.grew l a);clear a l)
     go_roundg (E.length-(k+1))
     case measure=>omega
     case rel=>exact⟨k+1,h5,O++[x],by omega,rfl,by simp[aB],by go_num,by simp;omega,u,J⟩
  ·have e:k=E.length:=by omega
   subst e;have HM:Hid (iU H M E=O):=by show _=_;rw[HO.out,RI]
   go_wp2;go_ret;exact⟨c,by rw[HM.out];rfl,by rw[HM.out];exact al.out.base G.out⟩
def GG(S:List Sm)(hs:List Nat)(i:Nat):Bool:=((au S (hs.getD i 0)).k.toList == [36,102])
def xM(S:List Sm)(hs:List Nat)(k:Nat):List Nat:=(List.range k).filter (GG S hs)
def cI(T:List Tk)(S:List Sm)(j:Nat):List ByteArray:=bu T (au S j).h
def gK(T:List Tk)(S:List Sm)(hs:List Nat)(k:Nat):List ByteArray:=(xM S hs k).map (fun i=>(cI T S (hs.getD i 0)).getD 1 ⟨#[]⟩)
def gi(S:List Sm)(hs:List Nat)(M:List (List ByteArray))(k:Nat):List (List ByteArray):=(xM S hs k).map (fun i=>(M.getD i []).drop 1)
theorem Jl:xM w n (f+1)=xM w n f++(if GG w n f=true then [f] else []):=gZ _ _
theorem Eh:(prog.info? 61).map (fun i=>(i.zero,i.size,i.bytes))=some (some (.slice none 0 0),1,24):=by kernel_rfl
structure Kg(w wr:World)(V:List ByteArray)(hv:Hd)(B:List Sl)(hb:Hd):Prop where
 r:wr.heap[w.heap.size]?=some (.cells #[.slice none 0 0,.slice none 0 0] 271 (0,0))
 c:wr.heap[w.heap.size+1]?=some (.cells #[.slice hv.ao V.length hv.cap,.slice hb.ao B.length hb.cap] 271 (0,0))
 v:aw wr hv (aB V)
 b:aw wr hb (lz B)
 fv:∀k,hv.blk=some k->w.heap.size+1<k
 fb:∀k,hb.blk=some k->w.heap.size+1<k
 ap:∀k,hv.blk=some k->hb.blk≠some k
 s:o8 w B
 kept:ab [] w wr
section
variable {w wr w5:World} {V V':List ByteArray} {hv hb h5:Hd} {B B':List Sl}
theorem Kg.Va(a:Kg w wr V hv B hb)(k:ab [] wr w5):Kg w w5 V hv B hb :=
 ⟨k.get a.r (by simp),k.get a.c (by simp),a.v.Va k,a.b.Va k,a.fv,a.fb,a.ap,a.s,a.kept.trans k⟩
theorem BK(f:∀k,y6.blk=some k->d<k)(c:d<wr.heap.size)(g:bt wr w5 y6 h5):∀k,h5.blk=some k->d<k:=fun k a=>by
 rcases g.blk with e | ⟨q,e,b⟩
 ·exact f k (by rw[<-e];exact a)
 ·rw[e]at a;cases a;omega
theorem wk{h o:Hd}{r:dN}(c:∀k,h.blk=some k->o.blk≠some k)(d:aw wr o r)(g:bt wr w5 h h5):∀k,h5.blk=some k->o.blk≠some k:=fun k b a=>by
 rcases g.blk with e | ⟨q,e,f⟩
 ·exact c k (by rw[<-e];exact b) a
 ·rw[e]at b;cases b
  have:=d.lt a;omega
theorem Kg.addV(a:Kg w wr V hv B hb)(g:bt wr w5 hv h5)(o:aw w5 h5 (aB V')){m:Nat}(e:m=V'.length):Kg w (w5.setCell ⟨w.heap.size+1,0,none⟩ (.slice h5.ao m h5.cap)) V' h5 B hb:=by
 subst e;have i:∀q,q<=w.heap.size+1->q∉hv.blk.toList:=fun q d e=>by have:=a.fv q (aN e);omega
 have v:=ae a.c;have u:=g.kept.get a.r (i _ (by omega));have t:=g.kept.get a.c (i _ (by omega));have j:=BK a.fv v g;have l:aw w5 hb (lz B):=g.beside a.b (fun k n h=>a.ap k h n);have f:ab [w.heap.size+1] w5 (w5.setCell ⟨w.heap.size+1,0,none⟩ (.slice h5.ao V'.length h5.cap)):=(ab.refl _ _).setCell (Q0 (by simp)) _;have p:ab [] w w5:=pJ g.kept (fun q d=>by have:=a.fv q (aN d);omega) a.kept;exact⟨f.get u (by simp),by rw[ah t];rfl,o.Vf (fun q d=>f.block q (o.lt d) (by simp;have:=j q d;omega)),l.Vf (fun q d=>f.block q (l.lt d) (by simp;have:=a.fb q d;omega)),j,a.fb,wk a.ap a.b g,a.s,p.setCell (QU (by simp)) _⟩
theorem Kg.addB(a:Kg w wr V hv B hb)(g:bt wr w5 hb h5)(o:aw w5 h5 (lz B'))(s:o8 w B'){m:Nat}(i:m=B'.length):Kg w (w5.setCell ⟨w.heap.size+1,1,none⟩ (.slice h5.ao m h5.cap)) V hv B' h5:=by
 subst i;have l:∀q,q<=w.heap.size+1->q∉hb.blk.toList:=fun q d i=>by have:=a.fb q (aN i);omega
 have y:=ae a.c;have u:=g.kept.get a.r (l _ (by omega));have t:=g.kept.get a.c (l _ (by omega));have p:=BK a.fb y g;have n:aw w5 hv (aB V):=g.beside a.v (fun k e b=>a.ap k e b);have j:ab [w.heap.size+1] w5 (w5.setCell ⟨w.heap.size+1,1,none⟩ (.slice h5.ao B'.length h5.cap)):=(ab.refl _ _).setCell (Q0 (by simp)) _;have x:ab [] w w5:=pJ g.kept (fun q d=>by have:=a.fb q (aN d);omega) a.kept;have f:=wk (h:=hb) (o:=hv) (fun k e b=>a.ap k b e) a.v g;exact⟨j.get u (by simp),by rw[ah t];rfl,n.Vf (fun q d=>j.block q (n.lt d) (by simp;have:=a.fv q d;omega)),o.Vf (fun q d=>j.block q (o.lt d) (by simp;have:=p q d;omega)),a.fv,p,fun k e b=>f k b e,s,x.setCell (QU (by simp)) _⟩
end
theorem J0{g i:Value}(h:a.heap[d]?=some (.cells #[g,i] 271 (0,0)))(b c:Value) :
  (a.setCell ⟨d,0,none⟩ b).cell? ⟨d,0,none⟩=some b/\((a.setCell ⟨d,0,none⟩ b).setCell ⟨d,1,none⟩ c).cell? ⟨d,1,none⟩=some c:=by
 have e:=ah h 0 b;have f:=ah e 1 c;exact⟨by rw[aa e];rfl,by rw[aa f];rfl⟩
theorem pq.tail{o n:Nat}(g:pq a ⟨some ⟨d,o,none⟩,n,D⟩):pq a ⟨some ⟨d,o+1,none⟩,n-1,D.drop 1⟩:=by
 have b:=g.le;simp only at b;refine⟨fun k x f=>?_,fun h=>(by cases h),(by simp;omega)⟩;simp only[SU]at f;obtain⟨l,j,e,i,c⟩:=g.src (1+k) x f
 cases e
 exact⟨d,o+1,rfl,i,by rw[show o+1+k=o+(1+k) by omega];exact c⟩
theorem pq.none0(h:y5=none->d=0):pq a ⟨y5,d,[]⟩:=⟨fun k x b=>by simp at b,fun e=>⟨rfl,h e⟩,Rn _⟩
theorem Js(A:List Sl)(bk:Option Addr)(cA:Nat)(a:World)(hD:fz a I l o v w z4 T)(ok:nJ l w y)(hH:qC a z3 n)(C:∀j∈n,j<y)(c3:n.length<=10000)(hA:cm a bk 1 Fd A)(bg:o8 a A)(cy:n.length<=A.length)(hF:∀i,i<n.length->GG w n i=true->1<(cI l w (n.getD i 0)).length)(hN:∀s∈A,0<s.L.length) :
  Calls prog 177 #[.pointer (some ⟨I,0,none⟩),.slice z3 n.length f,.slice bk A.length cA] a fun e w'=>∃t p B,e=.returned (.agg #[.slice t.ao (gK l w n n.length).length t.cap,.slice p.ao B.length p.cap])/\B.map (·.L)=gi w n (A.map (·.L)) n.length/\o8 a B/\gw a w' t (aB (gK l w n n.length))/\gw a w' p (lz B):=by
 have HD:=hI hD;have b6:=hI ok;have db:=ok.sm;have cP:=ok.tm;have hn:=ok.ok.m;have HH:=hI hH;have cs:=hI C;have HA:=hI hA;have b3:=hI bg;have HF:=hI hF;have HN:=hI hN;obtain⟨iS,cj,ba,bv,br⟩:=Rd js;obtain⟨iL,bj,ad,af,ac⟩:=Rd Eh
 have S0:Hid (Kg a ((a.alloc (.cells #[.slice none 0 0,.slice none 0 0] 271)).alloc (.cells #[.slice none 0 0,.slice none 0 0] 271)) [] ⟨none,0⟩ [] ⟨none,0⟩):=by
  obtain⟨W1,Y⟩:∃W1,W1=a.alloc (.cells #[.slice none 0 0,.slice none 0 0] 271):=⟨_,rfl⟩
  have z1:W1.heap.size=a.heap.size+1:=by rw[Y];simp
  have k0:ab [] a W1:=by rw[Y];exact(ab.refl [] _).alloc _
  have e0:W1.heap[a.heap.size]?=some (.cells #[.slice none 0 0,.slice none 0 0] 271 (0,0)):=by rw[Y];exact QR _ _
  have k1:ab [] W1 (W1.alloc (.cells #[.slice none 0 0,.slice none 0 0] 271)):=(ab.refl [] _).alloc _
  show Kg _ _ _ _ _ _
  rw[<-Y];exact⟨k1.get e0 (by simp),by rw[<-z1];exact QR _ _,QY _ _ _ _,QY _ _ _ _,(by intro k hk;cases hk),(by intro k hk;cases hk),(by intro k hk;cases hk),(fun s n=>by cases n),k0.trans k1⟩
 obtain⟨M,bw⟩:∃M,Hid (A.map (·.L)=M):=⟨_,rfl⟩
 rw[bw.out];have cp:Hid (∀k,k<A.length->M.getD k []=(fQ A k).L):=fun k hk=>by rw[<-bw.out];exact wE A k hk
 have ct:Hid (([]:List ByteArray)=gK l w n 0):=rfl;have cq:Hid (([]:List Sl).map (·.L)=gi w n M 0):=rfl;clear hD ok hH C hA bg hF hN;go_enter func177,ntmps177;go_wp2
 go_loopg [8] n.length (fun g i wr=>∃(k:Nat) (V:List ByteArray) (t:Hd) (B:List Sl) (p:Hd),k<=n.length/\g=n.length-k/\i=.int .i64 k/\(V.length<=k/\B.length<=k)/\Hid (V=gK l w n k)/\Hid (B.map (·.L)=gi w n M k)/\Hid (Kg a wr V t B p))
 case atStart=>exact⟨0,[],⟨none,0⟩,[],⟨none,0⟩,by omega,rfl,rfl,⟨QQ _,QQ _⟩,ct,cq,S0⟩
 case round =>
  obtain⟨k,V,t,B,p,hk,hg,rfl,⟨c9,cF⟩,HV,HB,u⟩:=hrel;have R:=hI u.out.kept
  by_cases C:k<n.length
  ·have b4:(k:Int)<(n.length:Int):=by omega
   have cl:=cs.out n[k] (Ra C);have O:n[k]<w.length:=by omega
   obtain⟨gH,rfl,bd,bo⟩:=(qC.Va HH.out R.out) k n[k] (QO C);have bl:=hI (fz.Va HD.out R.out);obtain⟨t0,s0,cu⟩:=bl.out.cells;obtain⟨gs,rfl,cf,-,-,-,q3⟩:=bl.out.s.2 n[k] w[n[k]] (QO O);have ax:n.getD k 0=n[k]:=by rw[QP,QO C];rfl
   have bz:Hid (GG w n k=(w[n[k]].k.toList == [36,102])):=by show _=_;unfold GG;rw[ax,bM w n[k] O]
   have F:=hI (Jl w n k);have cV:((n[k]:Nat):Int)<(w.length:Int):=by omega
   have c2:(0:Int)<=((n[k]:Nat):Int):=by omega
   have a4:Hid ((w[n[k]].k.toList == [36,102])=true->∀wx,ab [] a wx->Calls prog 72 #[.pointer (some ⟨I,0,none⟩),.int .i64 ((n[k]:Nat):Int)] wx fun e w'=>∃h',e=.returned (.slice h'.ao (bu l w[n[k]].h).length h'.cap)/\vi wx w' h' (bu l w[n[k]].h)):=fun h wx kx=>kC I n[k] l o v w _ T wx (fz.Va HD.out kx) O (by omega) (by have:=b6.out.e n[k] cl;rw[<-bM w n[k] O]at this;exact this (fX h (by decide)))
   have b1:Hid (bu l w[n[k]].h=cI l w (n.getD k 0)):=by show _=_;unfold cI;rw[ax,bM w n[k] O]
   rw[b1.out]at a4;have a6:=hI (HF.out k C);rw[bz.out]at F a6;clear b1 bz ax;generalize w[n[k]].k=sk at *;generalize n[k]=j at *
   cases h1:(sk.toList == [36,102])
   ·rw[h1,QS (by simp),Rk]at F
    have U:Hid (V=gK l w n (k+1)):=by show _=_;unfold gK;rw[F.out];exact HV.out
    have P:Hid (B.map (·.L)=gi w n M (k+1)):=by show _=_;unfold gi;rw[F.out];exact HB.out
    go_upto_region 5 with fail
    go_quiet (fail)
    have aS:=hI (u.out.Va ((ab.refl [] wr).drewN nq));go_wp2
    go_roundg (n.length-(k+1))
    case measure=>omega
    case rel=>exact⟨k+1,V,t,B,p,by omega,rfl,by go_num,⟨by omega,by omega⟩,U,P,aS⟩
   ·rw[h1,QV rfl]at F
    have bT:=a6.out h1;have an:=hI (a4.out h1);obtain⟨X,HX⟩:∃X,Hid (cI l w (n.getD k 0)=X):=⟨_,rfl⟩
    rw[HX.out]at bT an;have U:Hid (V++[X.getD 1 ⟨#[]⟩]=gK l w n (k+1)):=by show _=_;unfold gK;rw[F.out,Rx,HV.out];simp only[To,Uz];rw[HX.out];rfl
    have W:k<A.length:=by omega
    have P:Hid (B.map (·.L)++[(fQ A k).L.drop 1]=gi w n M (k+1)):=by show _=_;unfold gi;rw[F.out,Rx,HB.out];simp only[To,Uz];rw[cp.out k W];rfl
    go_upto_region 5 with fail
    go_quiet (fail)
    go_upto_region 6 with fail
    obtain⟨W2,Z⟩:∃W2,Hid (wr.drewN nq=W2):=⟨_,rfl⟩
    rw[Z.out];have k2:ab [] wr W2:=by rw[<-Z.out];exact(ab.refl [] wr).drewN nq
    have aS:=hI (u.out.Va k2);have bf:=hI (an.out W2 (R.out.trans k2));have bs:W2.cell? ⟨gH,k,none⟩=some (.int .i64 (j:Int)):=by rw[Q5 (k2.block gH bd (by simp))];exact bo
    have bx:=QW bd k2.size;clear t0 s0 cu q3 bo cf k2 an
    go_upto_region 7 with (go_at_call 72;refine QT bf.out ?_;rintro e w3 ⟨h3,rfl,x3⟩)
    have z:=hI (aS.out.Va x3.kept);obtain⟨gX,eX,cb,cX⟩:=x3.own.srcX 1 _ (mh X 1 bT);generalize X.getD 1 ⟨#[]⟩=x at *;rw[eX];have cE:(1:Int)<(X.length:Int):=by omega
    have p0:w3.cell? ⟨a.heap.size+1,0,none⟩=some (.slice t.ao V.length t.cap):=by rw[aa z.out.c];rfl
    have p1:=am z.out.c 0;have p2:=ae z.out.c;have ck:=z.out.v;have b2:Hid ((aB V).n<=900000000):=by show V.length<=_;omega
    have co:Hid ((aB V).n=V.length):=rfl;clear bs bx x3
    go_region_law (refine bH w3 rfl (.tmp 36) (.tmp 40) 61 rfl iS (.string ⟨#[]⟩) 16 t (aB V) [.string x] underlying61 cj ba bv br rfl Rb (by rw[co.out];simp[Act.eval]) ck b2.out (by omega) (by simp[Act.eval]) rfl (by simp[Value.oneCell']) ?_;intro aT N w5 al ap;have c5:=ap.kept.get z.out.c (fun H=>by have:=z.out.fv _ (aN H);omega);have f5:=am c5 0;have d5:w5.cell? ⟨a.heap.size+1,0,none⟩=some (.slice t.ao V.length t.cap):=(by rw[aa c5];rfl);have z5:=ae c5)
    all_goals
     rw[dr]at al;have b:=hI (z.out.addV (m:=(aB V).n+1) ap al (by simp[aB]));obtain⟨X5,bc⟩:∃X5,Hid (w5.setCell ⟨a.heap.size+1,0,none⟩ (.slice aT ((aB V).n+1) N)=X5):=⟨_,rfl⟩
     rw[bc.out]at b ⊢;clear al ap c5 f5 d5 z5 p0 p1 p2 bc cb cX;have b5:=hI b.out.kept;obtain⟨gA,rfl,cR,ch⟩:=cm.sl (cm.Va HA.out b5.out) k W;have ar:=hI (b3.out (fQ A k) (jK A k W));have a1:=HN.out (fQ A k) (jK A k W);have cx:(k:Int)<(A.length:Int):=by omega
     generalize fQ A k=s at *;obtain⟨cc,d,G⟩:=s;obtain⟨J,K,es,-,-⟩:=ar.out.src 0 _ (mh G 0 a1);replace es:cc=some ⟨J,K,none⟩:=es;subst es;have ca:=ar.out.le;simp only at ch a1 ca P;have p0:X5.cell? ⟨a.heap.size+1,1,none⟩=some (.slice p.ao B.length p.cap):=by rw[aa b.out.c];rfl
     have p1:=am b.out.c 1;have p2:=ae b.out.c;have b0:=b.out.b;have a5:Hid ((lz B).n<=900000000):=by show B.length<=_;omega
     have a7:Hid ((lz B).n=B.length):=rfl;have c4:(1:Int)<=(G.length:Int):=by omega
     have cz:1<=G.length:=a1;have c7:1<=d:=by omega
     have c8:(G.length:Int)<=(d:Int):=by omega
     by_cases be:d=1
     ·subst be
      have HT:Hid (pq a ⟨some ⟨J,K,none⟩,0,G.drop 1⟩):=by show pq a _;rw[Ty (by omega)];exact pq.none0 (fun e=>by cases e)
      have az:Hid (([.slice (some ⟨J,K,none⟩) 0 0]:List Value)=Fd ⟨some ⟨J,K,none⟩,0,G.drop 1⟩):=by show _=_;unfold Fd;rw[Ty (by omega)];rfl
      go_upto_region 8 with fail
      go_region_law (refine bH X5 rfl (.tmp 44) (.tmp 50) 218 rfl iL (.slice none 0 0) 24 p (lz B) [.slice (some ⟨J,K,none⟩) 0 0] underlying218 bj ad af ac rfl Rb (by rw[a7.out];simp[Act.eval]) b0 a5.out (by omega) (by simp[Act.eval]) rfl (by simp[Value.oneCell']) ?_;intro ag Q w6 D E;have S:=E.kept.get b.out.c (fun H=>by have:=b.out.fb _ (aN H);omega);have f6:=am S 1;have d6:w6.cell? ⟨a.heap.size+1,1,none⟩=some (.slice p.ao B.length p.cap):=(by rw[aa S];rfl);have z6:=ae S)
      all_goals
       rw[az.out,qu]at D
       have ai:=(show Hid _ from b.out.addB (m:=(lz B).n+1) E D (fun s n=>by
        rcases Rq.1 n with h | h
        ·exact b.out.s s h
        ·rw[Q8.1 h];exact HT.out) (by simp[lz,kT]))
       have a0:Hid ((B++[(⟨some ⟨J,K,none⟩,0,G.drop 1⟩:Sl)]).map (·.L)=gi w n M (k+1)):=by show _=_;rw[Rx];exact P.out
       clear D E S;go_wp2
       go_roundg (n.length-(k+1))
       case measure=>omega
       case rel=>exact⟨k+1,V++[x],⟨aT,N⟩,B++[⟨some ⟨J,K,none⟩,0,G.drop 1⟩],⟨ag,Q⟩,by omega,rfl,by go_num,⟨by simp;omega,by simp;omega⟩,U,a0,ai⟩
     ·have HT:=hI (pq.tail ar.out)
      have az:Hid (G.length-1=(G.drop 1).length):=by show _=_;simp
      go_upto_region 8 with fail
      go_region_law (refine bH X5 rfl (.tmp 44) (.tmp 50) 218 rfl iL (.slice none 0 0) 24 p (lz B) [.slice (some ⟨J,K+1,none⟩) (G.length-1) (d-1)] underlying218 bj ad af ac rfl Rb (by rw[a7.out];simp[Act.eval]) b0 a5.out (by omega) (by simp[Act.eval]) rfl (by simp[Value.oneCell']) ?_;intro ag Q w6 D E;have S:=E.kept.get b.out.c (fun H=>by have:=b.out.fb _ (aN H);omega);have f6:=am S 1;have d6:w6.cell? ⟨a.heap.size+1,1,none⟩=some (.slice p.ao B.length p.cap):=(by rw[aa S];rfl);have z6:=ae S)
      all_goals
       rw[az.out,show([.slice (some ⟨J,K+1,none⟩) (G.drop 1).length (d-1)]:List Value)=Fd ⟨some ⟨J,K+1,none⟩,d-1,G.drop 1⟩ from rfl,qu]at D
       have ai:=(show Hid _ from b.out.addB (m:=(lz B).n+1) E D (fun s n=>by
        rcases Rq.1 n with h | h
        ·exact b.out.s s h
        ·rw[Q8.1 h];exact HT.out) (by simp[lz,kT]))
       have a0:Hid ((B++[(⟨some ⟨J,K+1,none⟩,d-1,G.drop 1⟩:Sl)]).map (·.L)=gi w n M (k+1)):=by show _=_;rw[Rx];exact P.out
       clear D E S;go_wp2
       go_roundg (n.length-(k+1))
       case measure=>omega
       case rel=>exact⟨k+1,V++[x],⟨aT,N⟩,B++[⟨some ⟨J,K+1,none⟩,d-1,G.drop 1⟩],⟨ag,Q⟩,by omega,rfl,by go_num,⟨by simp;omega,by simp;omega⟩,U,a0,ai⟩
  ·have e:k=n.length:=by omega
   subst e;have b4:¬(n.length:Int)<(n.length:Int):=by omega
   have r0:wr.cell? ⟨a.heap.size,0,none⟩=some (.slice none 0 0):=by rw[aa u.out.r];rfl
   have r1:wr.cell? ⟨a.heap.size,1,none⟩=some (.slice none 0 0):=by rw[aa u.out.r];rfl
   have r2:=am u.out.r 0;have r3:=am u.out.r 1;have c0:wr.cell? ⟨a.heap.size+1,0,none⟩=some (.slice t.ao V.length t.cap):=by rw[aa u.out.c];rfl
   have c1:wr.cell? ⟨a.heap.size+1,1,none⟩=some (.slice p.ao B.length p.cap):=by rw[aa u.out.c];rfl
   have cL:=ae u.out.c;have cB:=ae u.out.r;have a3:Hid (∀q,t.blk=some q->q≠a.heap.size):=fun q H=>by have:=u.out.fv q H;omega
   have bp:Hid (∀q,p.blk=some q->q≠a.heap.size):=fun q H=>by have:=u.out.fb q H;omega
   have a2:Hid (gK l w n n.length=V):=HV.out.symm;go_wp2;obtain⟨x0,x1⟩:=J0 u.out.r (.slice t.ao V.length t.cap) (.slice p.ao B.length p.cap);have kf:ab [] a ((wr.setCell ⟨a.heap.size,0,none⟩ (.slice t.ao V.length t.cap)).setCell ⟨a.heap.size,1,none⟩ (.slice p.ao B.length p.cap)):=(R.out.setCell (QU (by simp)) _).setCell (QU (by simp)) _;exact QX (v:=.agg #[.slice t.ao V.length t.cap,.slice p.ao B.length p.cap]) (by simp[results,results177,go_sem,x0,x1]) rfl ⟨t,p,B,by rw[a2.out],HB.out,u.out.s,by rw[a2.out];exact⟨(u.out.v.aside a3.out _ _).aside a3.out _ _,fun q H=>(by have:=u.out.fv q H;omega),kf⟩,⟨(u.out.b.aside bp.out _ _).aside bp.out _ _,fun q H=>(by have:=u.out.fb q H;omega),kf⟩⟩
def fO(T:List Tk)(S:List Sm)(hs:List Nat)(k:Nat):List ByteArray:=((hs.take k).filter (fun j=>((au S j).k.toList == [36,102]))).map (fun j=>tS T ((au S j).h+1))
def CH(p:ByteArray×ByteArray):List Value:=[.string p.1,.string p.2]
theorem LX(p:ByteArray×ByteArray):(CH p).length=2:=rfl
def ly(L:Fs):dN:=kT 114 2 CH L
theorem CQ(L:Fs)(x:ByteArray×ByteArray):(⟨(ly L).e,(ly L).size,(ly L).n+1,(ly L).xs++CH x⟩:dN)=ly (L++[x]):=gM _ _ _ _ _
def jY(T:List Tk)(S:List Sm)(a:Nat)(V:List ByteArray)(i m:Nat):Fs:=((List.range m).filter (fun j=>decide (i<j)&&hQ T S (V.getD i ⟨#[]⟩) (V.getD j ⟨#[]⟩) a)).map (fun j=>(V.getD i ⟨#[]⟩,V.getD j ⟨#[]⟩))
def ld(T:List Tk)(S:List Sm)(a:Nat)(V:List ByteArray)(k:Nat):Fs:=(List.range k).flatMap (fun i=>jY T S a V i V.length)
def fH(T:List Tk)(S:List Sm)(a:Nat):Fs:=ld T S a (fO T S (bW T S a) (bW T S a).length) (fO T S (bW T S a) (bW T S a).length).length
theorem CD(h:z2<f):jY l w T k z2 (f+1)=jY l w T k z2 f++(if hQ l w (k.getD z2 ⟨#[]⟩) (k.getD f ⟨#[]⟩) T=true then [(k.getD z2 ⟨#[]⟩,k.getD f ⟨#[]⟩)] else []):=by
 unfold jY;rw[gZ,Rx,SL h,Su]
 split <;> rfl
theorem CF:jY l w T k f (f+1)=[]:=by
 unfold jY;rw[Tg.2 (fun j a=>by have:=Q9.1 a;simp;omega)];rfl
theorem wN:ld l w T k (f+1)=ld l w T k f++jY l w T k f k.length:=by
 unfold ld;rw[R4,Sg];simp
theorem EU:(jY l w T k z2 f).length<=f:=by
 unfold jY;rw[Rh];have:=Sb (fun j=>decide (z2<j)&&hQ l w (k.getD z2 ⟨#[]⟩) (k.getD j ⟨#[]⟩) T) (List.range f);rw[Te]at this;exact this
theorem EB(h:f<n.length):fO l w n (f+1)=fO l w n f++(if((au w n[f]).k.toList == [36,102])=true then [tS l ((au w n[f]).h+1)] else []):=by
 unfold fO;rw[RC h,RU,Rx]
 congr 1
 cases a:((au w n[f]).k.toList == [36,102])
 ·rw[Sr (by rw[a];simp)];rfl
 ·rw[SF (p:=fun j=>((au w j).k.toList == [36,102])) a];rfl
theorem Nz:(prog.info? 114).map (fun i=>(i.zero,i.size,i.bytes))=some (some (.agg #[.string ⟨#[]⟩,.string ⟨#[]⟩]),2,32):=by kernel_rfl
theorem wH(hD:fz S I l o v w z4 T)(ok:nJ l w y)(hn:y<w.length)(hE:cU l (au w y).h) :
  Calls prog 64 #[.pointer (some ⟨I,0,none⟩),.int .i64 y] S fun e a=>∃D,e=.returned (.slice D.ao (fH l w y).length D.cap)/\gw S a D (ly (fH l w y)):=by
 have HD:=hI hD;have a6:=hI ok;have c9:=ok.sm;have cR:=ok.tm;have bo:=hI (nO I y l o v w z4 T S hD ok hn hE);have cF:=ki l w y;have b5:=hI (sJ l w y);have ca:Hid (fH l w y=ld l w y (fO l w (bW l w y) (bW l w y).length) (fO l w (bW l w y) (bW l w y).length).length):=rfl;obtain⟨iS,cl,ba,bw,bs⟩:=Rd js;obtain⟨iP,b3,a3,a4,bc⟩:=Rd Nz;clear hD ok;generalize bW l w y=b at *;go_enter func64,ntmps64
 go_upto_region 3 with (go_at_call 62;refine QT bo.out ?_;rintro e A ⟨h1,rfl,x1⟩)
 have bT:=hI x1.kept;have cj:=hI x1.own.srcN;have cz:Hid (gw A A ⟨none,0⟩ (aB [])):=⟨QY _ _ _ _,(by intro k hk;cases hk),ab.refl _ _⟩;clear x1 bo;obtain⟨a1,c1⟩:=h1;have cu:Hid (([]:List ByteArray)=fO l w b 0):=by show _=_;simp[fO]
 go_wp2
 go_loopg [5,7] b.length (fun g bv i wr=>∃(k:Nat) (D:Hd) (V:List ByteArray),k<=b.length/\g=b.length-k/\bv=.slice D.ao V.length D.cap/\i=.int .i64 k/\V.length<=k/\Hid (V=fO l w b k)/\Hid (gw A wr D (aB V)))
 case atStart=>exact⟨0,⟨none,0⟩,[],by omega,rfl,rfl,rfl,by simp,cu,cz⟩
 case round =>
  obtain⟨k,D,V,hk,hg,rfl,rfl,c8,HV,O⟩:=hrel;have U:=hI (bT.out.trans O.out.kept)
  by_cases Z:k<b.length
  ·have cL:(k:Int)<(b.length:Int):=by omega
   have cp:=b5.out b[k] (Ra Z);have ai:b[k]<w.length:=by omega
   obtain⟨gH,eH,co,cH⟩:=cj.out k b[k] (QO Z);replace eH:a1=some ⟨gH,0,none⟩:=eH;subst eH;have ag:=hI (fz.Va HD.out bT.out);obtain⟨t0,s0,hb⟩:=ag.out.cells;obtain⟨G,rfl,bd,-,-,q2,q3⟩:=ag.out.s.2 b[k] w[b[k]] (QO ai);have B:=hI (EB l w b k Z);rw[<-HV.out,<-bM w b[k] ai]at B;have ct:Hid ((w[b[k]].k.toList == [36,102])=true->w[b[k]].h+1<l.length):=fun h=>by have:=a6.out.f b[k] cp;rw[<-bM w b[k] ai]at this;exact this h
   have cV:((b[k]:Nat):Int)<(w.length:Int):=by omega
   have c2:(0:Int)<=((b[k]:Nat):Int):=by omega
   generalize w[b[k]].k=sk at *;generalize w[b[k]].h=r at *;generalize b[k]=j at *
   have az:Hid (∀a:World,A.heap.size<=a.heap.size->(∀q,q<A.heap.size->a.heap[q]?=A.heap[q]?)->(a.cell? ⟨I,0,none⟩=some (.slice o l.length v)/\a.cell? ⟨I,1,none⟩=some (.slice (some ⟨G,0,none⟩) w.length T)/\a.cell? ⟨gH,k,none⟩=some (.int .i64 (j:Int))/\a.cell? ⟨G,j*4+2,none⟩=some (.int .i64 (r:Int))/\a.cell? ⟨G,j*4+3,none⟩=some (.string sk))/\I<a.heap.size/\G<a.heap.size/\gH<a.heap.size):=fun a hz c =>
    ⟨⟨by rw[Q5 (c I hb)];exact t0,by rw[Q5 (c I hb)];exact s0,by rw[Q5 (c gH co)];exact cH,by rw[Q5 (c G bd)];exact q2,by rw[Q5 (c G bd)];exact q3⟩,by omega,by omega,by omega⟩
   clear t0 s0 q2 q3 cH;have b6:Hid (∀q,q<A.heap.size->wr.heap[q]?=A.heap[q]?):=fun q c=>O.out.kept.block q c (by simp)
   obtain⟨⟨t0,s0,cH,q2,q3⟩,b0,M,P⟩:=az.out wr O.out.kept.size b6.out
   cases h1:(sk.toList == [36,102])
   ·have E:Hid (V=fO l w b (k+1)):=by have:=B.out;rw[h1,QS (by simp),Rk]at this;exact this.symm
    go_upto_region 6 with fail
    go_quiet (fail)
    have n:=hI (O.out.Va ((ab.refl [] wr).drewN nq));go_wp2
    go_roundg (b.length-(k+1))
    case measure=>omega
    case rel=>exact⟨k+1,D,V,by omega,rfl,rfl,by go_num,by omega,E,n⟩
   ·have E:Hid (V++[tS l (r+1)]=fO l w b (k+1)):=by have:=B.out;rw[h1,QV rfl]at this;exact this.symm
    have ch:=ct.out h1;obtain⟨N,rfl,bp,u0,-⟩:=ag.out.t.2 (r+1) _ (iw l (r+1) ch);replace u0:A.cell? ⟨N,(r+1)*5,none⟩=some (.string (tS l (r+1))):=u0;generalize tS l (r+1)=a5 at *;have bg:Hid (∀a:World,(∀q,q<A.heap.size->a.heap[q]?=A.heap[q]?)->a.cell? ⟨N,(r+1)*5,none⟩=some (.string a5)):=fun a c=>by rw[Q5 (c N bp)];exact u0
    have cP:(r:Int)+1<(l.length:Int):=by omega
    have c6:IntKind.i64.wrap ((r:Int)+1)=(r:Int)+1:=by rw[R8];omega
    have c5:((r:Int)+1).toNat=r+1:=by omega
    have cX:(0:Int)<=(r:Int)+1:=by omega
    go_upto_region 6 with fail
    go_quiet (fail)
    go_upto_region 7 with fail
    obtain⟨K,bj⟩:∃K,Hid (wr.drewN nq=K):=⟨_,rfl⟩
    rw[bj.out];have k2:ab [] wr K:=by rw[<-bj.out];exact(ab.refl [] wr).drewN nq
    have n:=hI (O.out.Va k2);have ar:Hid (∀q,q<A.heap.size->K.heap[q]?=A.heap[q]?):=fun q c=>n.out.kept.block q c (by simp)
    clear t0 s0 cH q2 q3 b0 M P u0;obtain⟨⟨t0,s0,cH,q2,-⟩,b0,M,P⟩:=az.out K n.out.kept.size ar.out;have u0:=bg.out K ar.out;have cA:N<K.heap.size:=QW bp n.out.kept.size;have an:=n.out.own;have b4:Hid ((aB V).n<=900000000):=by show V.length<=_;omega
    have HS:Hid (∀(z:World) (h5:Hd),bt K z D h5->(z.cell? ⟨I,0,none⟩=some (.slice (some ⟨N,0,none⟩) l.length v)/\z.cell? ⟨I,1,none⟩=some (.slice (some ⟨G,0,none⟩) w.length T)/\z.cell? ⟨gH,k,none⟩=some (.int .i64 (j:Int))/\z.cell? ⟨G,j*4+2,none⟩=some (.int .i64 (r:Int))/\z.cell? ⟨N,(r+1)*5,none⟩=some (.string a5))):=fun z h5 gr=>by
     have br:∀q,q<A.heap.size->z.heap[q]?=A.heap[q]?:=fun q c=>by
      rw[gr.kept.block q (QW c n.out.kept.size) (fun hm=>by have:=O.out.far q (aN hm);omega)];exact ar.out q c
     obtain⟨⟨y0,y1,y2,y3,-⟩,-⟩:=az.out z (Q1 n.out.kept.size gr.kept.size) br;exact⟨y0,y1,y2,y3,bg.out z br⟩
    clear k2
    go_region_held3 (fun a=>a.cell? ⟨I,0,none⟩=some (.slice (some ⟨N,0,none⟩) l.length v)/\a.cell? ⟨I,1,none⟩=some (.slice (some ⟨G,0,none⟩) w.length T)/\a.cell? ⟨gH,k,none⟩=some (.int .i64 (j:Int))/\a.cell? ⟨G,j*4+2,none⟩=some (.int .i64 (r:Int))/\a.cell? ⟨N,(r+1)*5,none⟩=some (.string a5)) (go_keep) ((refine bH K (by rfl) (.tmp 33) (.tmp 53) 61 (by rfl) iS (.string ⟨#[]⟩) 16 D (aB V) [.string a5] underlying61 cl ba bw bs rfl Rb (by simp[Act.eval] <;> rfl) an b4.out (by omega) (by simp[Act.eval]) rfl (by simp[Value.oneCell']) ?_;intro cy aT z X Y;obtain⟨y0,y1,y2,y3,y4⟩:=HS.out z _ Y))
    rw[dr]at X;have ad:=hI (n.out.grew Y X);clear X Y;go_wp2
    go_roundg (b.length-(k+1))
    case measure=>omega
    case rel=>exact⟨k+1,⟨cy,aT⟩,V++[a5],by omega,rfl,by simp[aB],by go_num,by simp;omega,E,ad⟩
  ·have e:k=b.length:=by omega
   subst e;have cx:Hid (fH l w y=ld l w y V V.length):=by show _=_;rw[ca.out,HV.out]
   have aS:=hI O.out.own.srcX;have a2:Hid (gw wr wr ⟨none,0⟩ (ly [])):=⟨QY _ _ _ _,(by intro k hk;cases hk),ab.refl _ _⟩;have ck:Hid (([]:Fs)=ld l w y V 0):=by show _=_;simp[ld]
   obtain⟨va,vc⟩:=D;obtain⟨R,W⟩:∃R,Hid (wr=R):=⟨_,rfl⟩
   rw[W.out];rw[W.out]at aS a2 U;clear HV O W;go_wp2
   go_loopg [8,9] V.length (fun g bv i w3=>∃(m:Nat) (h2:Hd) (L:Fs),m<=V.length/\g=V.length-m/\bv=.slice h2.ao L.length h2.cap/\i=.int .i64 m/\L.length<=10000*m/\Hid (L=ld l w y V m)/\Hid (gw R w3 h2 (ly L)))
   case atStart=>exact⟨0,⟨none,0⟩,[],by omega,rfl,rfl,rfl,by simp,ck,a2⟩
   case round =>
    obtain⟨m,h2,L,hm,cE,rfl,rfl,hL,HL,a7⟩:=hrel
    by_cases bl:m<V.length
    ·have c0:(m:Int)<(V.length:Int):=by omega
     have cs:Hid (L=ld l w y V m++jY l w y V m (m+1)):=by show _=_;rw[CF,Rk];exact HL.out
     obtain⟨H,eV,bk,cq⟩:=aS.out m _ (mh V m bl);replace eV:va=some ⟨H,0,none⟩:=eV;subst eV;go_wp2
     go_loopg [8,10] (V.length-(m+1)) (fun g bv i w3=>∃(q:Nat) (Q:Hd) (C:Fs),(m<q/\q<=V.length)/\g=V.length-q/\bv=.slice Q.ao C.length Q.cap/\i=.int .i64 q/\C.length<=10000*m+q/\Hid (C=ld l w y V m++jY l w y V m q)/\Hid (gw R w3 Q (ly C)))
     case atStart=>exact⟨m+1,h2,L,⟨by omega,by omega⟩,rfl,rfl,by go_num,by omega,cs,a7⟩
     case round =>
      obtain⟨q,Q,C,⟨cb,c7⟩,db,rfl,rfl,cB,af,F⟩:=hrel
      by_cases bx:q<V.length
      ·have c4:(q:Int)<(V.length:Int):=by omega
       obtain⟨c3,cc,-,be⟩:=aS.out q _ (mh V q bx)
       cases cc
       have B:=hI (CD l w y V m q cb);have a0:Hid (∀wx,ab [] R wx->Calls prog 94 #[.pointer (some ⟨I,0,none⟩),.string (V.getD m ⟨#[]⟩),.string (V.getD q ⟨#[]⟩),.int .i64 y] wx fun e a=>e=.returned (.bool (hQ l w (V.getD m ⟨#[]⟩) (V.getD q ⟨#[]⟩) y))/\ab [] wx a):=fun wx kx=>vH I y _ _ l o v w z4 T wx (fz.Va HD.out (U.out.trans kx)) a6.out
       have ax:Hid (∀a:World,R.heap.size<=a.heap.size->(∀q,q<R.heap.size->a.heap[q]?=R.heap[q]?)->a.cell? ⟨H,m,none⟩=some (.string (V.getD m ⟨#[]⟩))/\a.cell? ⟨H,q,none⟩=some (.string (V.getD q ⟨#[]⟩))/\H<a.heap.size):=fun a hz c=>⟨by rw[Q5 (c H bk)];exact cq,by rw[Q5 (c H bk)];exact be,by omega⟩
       generalize V.getD m ⟨#[]⟩=x at *;generalize V.getD q ⟨#[]⟩=J at *;obtain⟨ap,b2⟩:∃ap,Hid (hQ l w x J y=ap):=⟨_,rfl⟩
       rw[b2.out]at a0 B;clear be;obtain⟨v0,v1,bf⟩:=ax.out wr F.out.kept.size (fun q c=>F.out.kept.block q c (by simp))
       go_upto_region 15 with fail
       go_region_with (go_at_call 94;refine(a0.out _ (by exact F.out.kept.drew)).mono ?_;rintro e z ⟨rfl,k5⟩)
       all_goals
        have k6:ab [] wr z:=((ab.refl [] wr).drew).trans k5;have d:=hI (F.out.Va k6);clear k5 k6 v0 v1 bf
        cases ap
        ·have E:Hid (C=ld l w y V m++jY l w y V m (q+1)):=by show _=_;rw[B.out,QS (by simp),Rk];exact af.out
         go_wp2
         go_roundg (V.length-(q+1))
         case measure=>omega
         case rel=>exact⟨q+1,Q,C,⟨by omega,by omega⟩,rfl,rfl,by go_num,by omega,E,d⟩
        ·have E:Hid (C++[(x,J)]=ld l w y V m++jY l w y V m (q+1)):=by show _=_;rw[B.out,QV rfl,af.out,Sx]
         go_upto_region 17 with fail
         obtain⟨v0,v1,bf⟩:=ax.out z d.out.kept.size (fun q c=>d.out.kept.block q c (by simp));have an:=d.out.own;have cf:Hid ((ly C).n<=900000000):=by show C.length<=_;omega
         have s3:Hid (∀u∈([.string x,.string J]:List Value),u.oneCell'=true):=by intro u hu;simp only[Ri,RN,SO]at hu;rcases hu with rfl | rfl <;> rfl
         have HS:Hid (∀(w6:World) (h6:Hd),bt z w6 Q h6->w6.cell? ⟨H,m,none⟩=some (.string x)/\w6.cell? ⟨H,q,none⟩=some (.string J)):=fun w6 h6 gr=>by
          obtain⟨y0,y1,-⟩:=ax.out w6 (Q1 d.out.kept.size gr.kept.size) (fun p hp=>by
           rw[gr.kept.block p (QW hp d.out.kept.size) (fun hm=>by have:=d.out.far p (aN hm);omega)];exact d.out.kept.block p hp (by simp))
          exact⟨y0,y1⟩
         go_region_held3 (fun a=>a.cell? ⟨H,m,none⟩=some (.string x)/\a.cell? ⟨H,q,none⟩=some (.string J)) (go_keep) ((refine bH z (by rfl) (.tmp 81) (.tmp 91) 111 (by rfl) iP (.agg #[.string ⟨#[]⟩,.string ⟨#[]⟩]) 32 Q (ly C) [.string x,.string J] underlying111 b3 a3 a4 bc rfl Up (by simp[Act.eval] <;> rfl) an cf.out (by omega) (by simp[Act.eval]) rfl s3.out ?_;intro b1 bz w6 ac al;obtain⟨y0,y1⟩:=HS.out w6 _ al))
         rw[show([.string x,.string J]:List Value)=CH (x,J) from rfl,CQ]at ac;have ad:=hI (d.out.grew al ac);clear ac al;go_wp2
         go_roundg (V.length-(q+1))
         case measure=>omega
         case rel=>exact⟨q+1,⟨b1,bz⟩,C++[(x,J)],⟨by omega,by omega⟩,rfl,by simp[ly,kT],by go_num,by simp;omega,E,ad⟩
      ·have eq:q=V.length:=by omega
       subst eq;have E:Hid (C=ld l w y V (m+1)):=by show _=_;rw[wN];exact af.out
       go_wp2
       go_roundg (V.length-(m+1))
       case measure=>omega
       case rel=>exact⟨m+1,Q,C,by omega,rfl,rfl,by go_num,by omega,E,F⟩
    ·have e:m=V.length:=by omega
     subst e;have E:Hid (fH l w y=L):=by show _=_;rw[cx.out,HL.out]
     go_wp2;go_ret;exact⟨h2,by rw[E.out];rfl,by rw[E.out];exact a7.out.base U.out⟩
end Go.Proofs.YtpddjjabfbfifaaGreat
