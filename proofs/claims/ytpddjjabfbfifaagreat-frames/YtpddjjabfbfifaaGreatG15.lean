import Derived.BigQuiet
import Derived.Deep.RegionLaw
import Derived.Test.YtpddjjabfbfifaaGreatG14
namespace Go.Proofs.YtpddjjabfbfifaaGreat
open Go.RowKit Tryz
set_option maxRecDepth 100000
set_option maxHeartbeats 40000000
variable{L:List dj}{v:Nat}{k zt:World}{y5:Option Addr}{z7:Nat->Int}{D:List ByteArray}{y6:Hd}{y7:ByteArray}(zb x:Nat)(i H:List ByteArray)(y8:Option Addr)(I y:Nat)(l:List Tk)(b:List dj)(o:Option Addr)(a:Nat)(w:List Sm)(z4:Option Addr)(M:Int)(N:ByteArray)(g z0:Int)(T:Nat)(S:World)(n:List Nat)(z3:Option Addr)(d:List ByteArray)(z2 f:Nat)
def Ql:dj:=⟨0,0,0,⟨#[]⟩,0,0⟩
def bO(P:List dj)(i:Nat):dj:=P.getD i Ql
theorem GO(h:f<b.length):b[f]?=some (bO b f):=by
 unfold bO;rw[QQ,QP h];rfl
def xJ(P:List dj)(i:Nat):Bool:=((bO P i).ref == -1)
def ic(P:List dj):Int:=match (List.range P.length).find? (xJ P) with
 | some i=>i
 | none=>-1
theorem Iv(a:v<L.length)(h:xJ L v=true)(c:∀j,j<v->xJ L j=false):ic L=v:=by
 have e:(List.range L.length).find? (xJ L)=some v:=by
  rw[Sj];exact⟨h,Ra.2 a,fun j b=>by rw[c j b];rfl⟩
 unfold ic;rw[e]
theorem Ln(b:∀j,j<L.length->xJ L j=false):ic L=-1:=by
 have e:(List.range L.length).find? (xJ L)=none:=by
  rw[Sk];intro j a;rw[b j (Ra.1 a)];simp
 unfold ic;rw[e]
theorem Ei:(ic b=-1/\∀j,j<b.length->(bO b j).ref≠-1)∨∃k,k<b.length/\ic b=(k:Int):=by
 unfold ic
 cases h:(List.range b.length).find? (xJ b) with
 | none =>
  refine Q1 ⟨rfl,fun j a e=>?_⟩;rw[Sk]at h;exact h j (Ra.2 a) (by unfold xJ;rw[e];rfl)
 | some i=>exact QV ⟨i,Ra.1 (Rz h),rfl⟩
theorem cm.step(h:cm k y5 6 kV L)(a:Nat)(d:a<L.length):∃g,y5=some ⟨g,0,none⟩/\g<k.heap.size/\k.cell? ⟨g,a*6,none⟩=some (.int .i64 (bO L a).ref)/\k.cell? ⟨g,a*6+1,none⟩=some (.int .i64 ((bO L a).back:Nat))/\k.cell? ⟨g,a*6+2,none⟩=some (.int .i64 ((bO L a).need:Nat)) /\
  k.cell? ⟨g,a*6+3,none⟩=some (.string (bO L a).file)/\k.cell? ⟨g,a*6+4,none⟩=some (.int .i64 (bO L a).line)/\k.cell? ⟨g,a*6+5,none⟩=some (.int .i64 (bO L a).col):=by
 obtain⟨g,e,b,c⟩:=h a _ (GO L a d);exact⟨g,e,b,c 0 _ rfl,c 1 _ rfl,c 2 _ rfl,c 3 _ rfl,c 4 _ rfl,c 5 _ rfl⟩
theorem Is(p:cm S o 6 kV b)(y:b.length<=100000000) :
  Calls prog 130 #[.agg #[.slice o b.length a,.int .i64 M,.string N,.int .i64 g,.int .i64 z0]] S fun e u=>e=.returned (.int .i64 (ic b))/\ab [] S u:=by
 obtain⟨W,h⟩:∃W,Hid (S.alloc (.cells #[.slice o b.length a,.int .i64 M,.string N,.int .i64 g,.int .i64 z0] 122)=W):=⟨_,rfl⟩
 have t:W.heap[S.heap.size]?=some (.cells #[.slice o b.length a,.int .i64 M,.string N,.int .i64 g,.int .i64 z0] 122 (0,0)):=by rw[<-h.out];exact QS _ _
 have c:Hid (ab [] S W):=by show ab [] S W;rw[<-h.out];exact(ab.refl [] _).alloc _
 have v:=hI (p.Vb c.out);have C:W.cell? ⟨S.heap.size,0,none⟩=some (.slice o b.length a):=by rw[aa t];rfl
 have A:=ae t;clear p;go_enter func130,ntmps130
 go_upto_region 1 with fail
 rw[h.out];go_wp2
 go_loopg [3] b.length (fun q i wr=>∃k:Nat,k<=b.length/\q=b.length-k/\i=.int .i64 k/\Hid (∀j,j<k->xJ b j=false)/\wr=W)
 case atStart=>exact⟨0,by omega,rfl,rfl,(fun j w=>by omega),rfl⟩
 case round =>
  obtain⟨k,B,D,rfl,m,rfl⟩:=hrel
  by_cases d:k<b.length
  ·have l:(k:Int)<(b.length:Int):=by omega
   obtain⟨q,rfl,x,z,-⟩:=cm.step v.out k d;have n:Hid (xJ b k=((bO b k).ref == -1)):=rfl;generalize (bO b k).ref=r at *
   cases s:(r == -1)
   ·have f:=hI (dU m.out (by rw[n.out,s]))
    go_wp2
    go_roundg (b.length-(k+1))
    case measure=>omega
    case rel=>exact⟨k+1,by omega,rfl,by go_num,f,rfl⟩
   ·have f:Hid (ic b=k):=Iv d (by rw[n.out,s]) m.out
    go_wp2;go_ret;exact⟨QN f.out.symm,c.out⟩
  ·have f:Hid (ic b=-1):=Ln (fun j w=>m.out j (by omega))
   have l:¬(k:Int)<(b.length:Int):=by omega
   go_wp2;go_ret;exact⟨QN f.out.symm,c.out⟩
def qI(rec:Nat->Int):Nat->Nat->Int
 | 0,b=>b
 | k+1,b=>if b=0 then -1 else if rec (b-1)<0 then -1 else qI rec k (rec (b-1)).toNat
def zH(P:List dj):Nat->Nat->Int
 | 0,_=>0
 | f+1,i=>qI (zH P f) (bO P i).need i
theorem Ng(c:∀i,z7 i<=(i:Int))(k:Nat):∀b,qI z7 k b<=(b:Int):=by
 induction k with
 | zero=>intro b;exact TJ _
 | succ k a =>
  intro b;rw[qI]
  split
  ·omega
  ·split
   ·omega
   ·have d:=a (z7 (b-1)).toNat
    have e:=c (b-1);omega
theorem zI(f:Nat):∀i,zH b f i<=(i:Int):=by
 induction f with
 | zero=>intro i;show(0:Int)<=i;omega
 | succ f a=>intro i;rw[zH];exact Ng a _ _
theorem vJ{c:Nat->Int}(e:∀i,z7 i<=(i:Int))(k:Nat):∀b,(∀i,i<b->z7 i=c i)->qI z7 k b=qI c k b:=by
 induction k with
 | zero=>intro b _;rfl
 | succ k d =>
  intro b h;rw[qI,qI]
  by_cases a:b=0
  ·rw[QW a,QW a]
  ·rw[QT a,QT a,<-h (b-1) (by omega)]
   split
   ·rfl
   ·next f =>
    have:=e (b-1);exact d _ (fun i g=>h i (by omega))
theorem Ha:∀f g i,i<f->i<g->zH b f i=zH b g i:=by
 intro f
 induction f with
 | zero=>intro g i h;omega
 | succ f a =>
  intro g i d c
  cases g with
  | zero=>omega
  | succ g =>
   rw[zH,zH];exact vJ (zI b f) _ _ (fun j e=>a g j (by omega) (by omega))
def dS(P:List dj)(i:Nat):Int:=zH P (i+1) i
theorem vM:dS b f=qI (dS b) (bO b f).need f:=by
 unfold dS;rw[zH];exact vJ (zI b f) _ _ (fun j a=>Ha b f (j+1) j a (by omega))
theorem vN:dS b f<=(f:Int):=zI b _ f
def M0(P:List dj):Prop:=∀i,(bO P i).need<=100000
theorem tJ(hl:b.length<=100000000)(L:M0 b)(f:Nat):∀(i:Nat) (w:World),i<f->i<b.length->cm w o 6 kV b ->
  Calls prog 132 #[.agg #[.slice o b.length a,.int .i64 M,.string N,.int .i64 g,.int .i64 z0],.int .i64 i] w fun e O=>e=.returned (.int .i64 (dS b i))/\ab [] w O:=by
 induction f with
 | zero=>intro i w h;omega
 | succ f G =>
  intro i w af Y F;have A:=hI G;clear G;obtain⟨W,z⟩:∃W,Hid (w.alloc (.cells #[.slice o b.length a,.int .i64 M,.string N,.int .i64 g,.int .i64 z0] 122)=W):=⟨_,rfl⟩
  have x:W.heap[w.heap.size]?=some (.cells #[.slice o b.length a,.int .i64 M,.string N,.int .i64 g,.int .i64 z0] 122 (0,0)):=by rw[<-z.out];exact QS _ _
  have p:Hid (ab [] w W):=by show ab [] w W;rw[<-z.out];exact(ab.refl [] _).alloc _
  have H:=hI (F.Vb p.out);have p0:W.cell? ⟨w.heap.size,0,none⟩=some (.slice o b.length a):=by rw[aa x];rfl
  have hz:=ae x;have P:(i:Int)<(b.length:Int):=by omega
  obtain⟨ac,rfl,B,-,-,K,-⟩:=cm.step H.out i Y;have J:=hI x;have C:=hI (vM b i);have T:=L i;generalize (bO b i).need=n at *;generalize dS b i=R at *;clear F x;go_enter func132,ntmps132
  go_upto_region 1 with fail
  rw[z.out];go_wp2;clear K B
  go_loopg [6,7] n (fun m bv X wr=>∃(k u:Nat),k<=n/\m=n-k/\bv=.int .i64 u/\X=.int .i64 k/\u<=i/\Hid (R=qI (dS b) (n-k) u)/\Hid (ab [] W wr))
  case atStart=>exact⟨0,i,by omega,rfl,rfl,rfl,by omega,C,ab.refl _ _⟩
  case round =>
   obtain⟨k,u,hk,hm,rfl,rfl,hb,c,v⟩:=hrel
   by_cases V:k<n
   ·have ad:(k:Int)<(n:Int):=by omega
    obtain⟨d,S⟩:∃d,n-k=d+1:=⟨n-k-1,by omega⟩
    have y:n-(k+1)=d:=by omega
    rw[S,qI]at c;have j:=hI (p.out.trans v.out)
    cases u with
    | zero =>
     rw[QW rfl]at c;go_wp2;go_ret;exact⟨QN c.out.symm,j.out⟩
    | succ q =>
     rw[QT (by omega),SD]at c;have s:=v.out.get J.out (by simp);have r0:wr.cell? ⟨w.heap.size,0,none⟩=some (.slice (some ⟨ac,0,none⟩) b.length a):=by rw[aa s];rfl
     have r1:wr.cell? ⟨w.heap.size,1,none⟩=some (.int .i64 M):=by rw[aa s];rfl
     have r2:wr.cell? ⟨w.heap.size,2,none⟩=some (.string N):=by rw[aa s];rfl
     have r3:wr.cell? ⟨w.heap.size,3,none⟩=some (.int .i64 g):=by rw[aa s];rfl
     have r4:wr.cell? ⟨w.heap.size,4,none⟩=some (.int .i64 z0):=by rw[aa s];rfl
     have ag:=ae s;have E:=hI (A.out q wr (by omega) (by omega) (cm.Vb H.out v.out));have Q:=vN b q;have Z:((q:Int)+1==0)=false:=by simp;omega
     generalize dS b q=r at *
     by_cases I:r<0
     ·rw[QW I]at c
      go_wp2_with (go_at_call 132;refine QU E.out ?_;rintro e U ⟨rfl,t⟩;have l:=hI (j.out.trans t);clear t);go_ret;exact⟨QN c.out.symm,l.out⟩
     ·rw[QT I]at c
      obtain⟨D,rfl⟩:∃D:Nat,r=D:=⟨r.toNat,by omega⟩
      rw[Sa,<-y]at c;go_wp2_with (go_at_call 132;refine QU E.out ?_;rintro e U ⟨rfl,t⟩;have l:=hI (v.out.trans t);clear t)
      go_roundg (n-(k+1))
      case measure=>omega
      case rel=>exact⟨k+1,D,by omega,rfl,rfl,by go_num,by omega,c,l⟩
   ·have e:k=n:=by omega
    subst e;rw[RY,qI]at c;have j:=hI (p.out.trans v.out);go_wp2;go_ret;exact⟨QN c.out.symm,j.out⟩
def Mr(A B:List ByteArray)(i:Nat):Bool:=((A.getD i ⟨#[]⟩).toList==(B.getD i ⟨#[]⟩).toList)
def oc(A B:List ByteArray):Bool:=(A.length==B.length)&&(List.range A.length).all (Mr A B)
theorem mm(h:f<d.length):d[f]?=some (d.getD f ⟨#[]⟩):=by
 rw[QQ,QP h];rfl
theorem C0(s:ge S y8 i)(u:ge S o H)(y:i.length<=1000000000) :
  Calls prog 133 #[.slice y8 i.length a,.slice o H.length T] S fun e C=>e=.returned (.bool (oc i H))/\ab [] S C:=by
 have D:=hI s;have A:=hI u;clear s u
 by_cases c:i.length=H.length
 ·have q:Hid (oc i H=(List.range i.length).all (Mr i H)):=by show _=_;unfold oc;rw[c];simp
  obtain⟨b,d⟩:∃b,Hid (i.length=b):=⟨_,rfl⟩
  have l:Hid (H.length=b):=by show _=_;rw[<-c];exact d.out
  rw[d.out,l.out];rw[d.out]at y q;clear c;go_enter func133,ntmps133;go_wp2
  go_loopg [5] b (fun g F wr=>∃k:Nat,k<=b/\g=b-k/\F=.int .i64 k/\Hid (∀j,j<k->Mr i H j=true)/\Hid (ab [] S wr))
  case atStart=>exact⟨0,by omega,rfl,rfl,(fun j p=>by omega),ab.refl _ _⟩
  case round =>
   obtain⟨k,M,N,rfl,w,n⟩:=hrel
   by_cases f:k<b
   ·have r:(k:Int)<(b:Int):=by omega
    obtain⟨L,rfl,B,K⟩:=(ge.Vb D.out n.out) k _ (mm i k (by rw[d.out];exact f));obtain⟨J,rfl,E,I⟩:=(ge.Vb A.out n.out) k _ (mm H k (by rw[l.out];exact f));have t:Hid (Mr i H k=((i.getD k ⟨#[]⟩).toList==(H.getD k ⟨#[]⟩).toList)):=rfl;generalize i.getD k ⟨#[]⟩=x at *;generalize H.getD k ⟨#[]⟩=z at *;have m:=hI n.out.drew
    cases v:(x.toList==z.toList)
    ·have h:Hid (oc i H=false):=by
      show _=_
      rw[q.out,Ue];exact⟨k,Ra.2 f,by rw[t.out,v];simp⟩
     go_upto_region 6 with fail
     go_region
     all_goals
      go_wp2;go_ret;exact⟨aD h.out.symm,m.out⟩
    ·have h:Hid (∀j,j<k+1->Mr i H j=true):=fun j p=>by
      by_cases e:j=k
      ·rw[e,t.out,v]
      ·exact w.out j (by omega)
     go_upto_region 6 with fail
     go_region
     all_goals
      go_wp2
      go_roundg (b-(k+1))
      case measure=>omega
      case rel=>exact⟨k+1,by omega,rfl,by go_num,h,m⟩
   ·have h:Hid (oc i H=true):=by
     show _=_
     rw[q.out,Sn];exact fun j p=>w.out j (by have:=Ra.1 p;omega)
    have r:¬(k:Int)<(b:Int):=by omega
    go_wp2;go_ret;exact⟨aD h.out.symm,n.out⟩
 ·have h:Hid (oc i H=false):=by show _=_;unfold oc;simp[c]
  have G:((i.length:Int)==(H.length:Int))=false:=UV (by omega);go_enter func133,ntmps133;go_wp2;go_ret;exact⟨aD h.out.symm,ab.refl _ _⟩
def xc(rec:Nat->Int):Nat->Nat->List Nat->List Nat
 | 0,_,acc=>acc
 | m+1,b,acc=>xc rec m (rec (b-1)).toNat ((b-1) :: acc)
def mJ(P:List dj)(i:Nat):List Nat:=xc (dS P) (bO P i).need i []
theorem Mp(c:Nat->Int)(m:Nat):∀b a,(xc c m b a).length=m+a.length:=by
 induction m with
 | zero=>intro b a;simp[xc]
 | succ m d=>intro b a;rw[xc,d];simp;omega
theorem Jy:(mJ b f).length=(bO b f).need:=by unfold mJ;rw[Mp];simp
theorem N7(k:∀i,z7 i<=(i:Int))(m:Nat):∀b a i,b<=i->0<=qI z7 m b->(∀q∈a,q<i)->∀q∈xc z7 m b a,q<i:=by
 induction m with
 | zero=>intro b a i _ _ h;exact h
 | succ m j =>
  intro b a i l c h q d;rw[qI]at c;rw[xc]at d
  by_cases g:b=0
  ·rw[QW g]at c;omega
  ·rw[QT g]at c
   by_cases f:z7 (b-1)<0
   ·rw[QW f]at c;omega
   ·rw[QT f]at c
    have:=k (b-1);refine j _ _ i (by omega) c (fun q d=>?_) q d
    rcases Rj.1 d with e | e
    ·omega
    ·exact h q e
theorem Mj(h:0<=dS b f):∀q∈mJ b f,q<f:=by
 rw[vM]at h;exact N7 (vN b) _ _ _ f (QR _) h (fun q a=>by cases a)
theorem N3(m x:Nat)(L:List Nat):(jX (List.replicate (m+1) 0++L)).set m (.int .i64 x)=jX (List.replicate m 0++x :: L):=by
 unfold jX
 induction m with
 | zero=>simp
 | succ m a=>rw[TY,Ti,Tp,SB,a];simp[List.replicate_succ]
theorem IN:madeCells (Value.int .i64 0).cells (f*1)=(jX (List.replicate f 0)).toArray:=by
 rw[UZ]
 apply Array.ext
 ·rw[Su];simp[jX]
 ·intro i a b
  have e:(Value.int .i64 0).cells=#[.int .i64 0]:=rfl;simp[madeCells,e,Nat.mod_one,jX]
def nG(w:World)(g:Nat)(L:List Nat):Prop:=w.heap[g]?=some (.cells (jX L).toArray 3 (0,0))
theorem nG.src{L:List Nat}(h:nG k v L):qD k (some ⟨v,0,none⟩) L:=by
 intro b x a;refine⟨v,rfl,ae h,?_⟩;rw[aa h];simp[jX,a]
theorem Jx(hl:b.length<=100000000)(hN:M0 b)(hi:T<b.length)(hS:cm S o 6 kV b)(H:0<=dS b T) :
  Calls prog 102 #[.agg #[.slice o b.length a,.int .i64 M,.string N,.int .i64 g,.int .i64 z0],.int .i64 T] S fun e x=>∃k,e=.returned (.slice (some ⟨k,0,none⟩) (bO b T).need (bO b T).need)/\nG x k (mJ b T)/\ab [] S x:=by
 obtain⟨i0,K,D,V,ad⟩:=Re z8;have ag:=hN T;have O:=fun S=>dB (P:=prog) S 26 3 i0 _ underlying26 K D (bO b T).need 1 V (by rw[ad];omega) (by omega)
 obtain⟨y,l⟩:∃y,Hid (madeCells (Value.int .i64 0).cells ((bO b T).need*1)=y):=⟨_,rfl⟩
 have Y:Hid (y=(jX (List.replicate (bO b T).need 0)).toArray):=by show _=_;rw[<-l.out,IN]
 rw[l.out]at O;obtain⟨W,Z⟩:∃W,Hid (S.alloc (.cells #[.slice o b.length a,.int .i64 M,.string N,.int .i64 g,.int .i64 z0] 122)=W):=⟨_,rfl⟩
 have z:W.heap[S.heap.size]?=some (.cells #[.slice o b.length a,.int .i64 M,.string N,.int .i64 g,.int .i64 z0] 122 (0,0)):=by rw[<-Z.out];exact QS _ _
 have t:Hid (ab [] S W):=by show ab [] S W;rw[<-Z.out];exact(ab.refl [] _).alloc _
 have HS:=hI (hS.Vb t.out);have p0:W.cell? ⟨S.heap.size,0,none⟩=some (.slice o b.length a):=by rw[aa z];rfl
 have hz:=ae z;have al:(T:Int)<(b.length:Int):=by omega
 obtain⟨k,rfl,R,-,-,q2,-⟩:=cm.step HS.out T hi;have HB:=hI z;rw[vM]at H;have H0:=hI H;have A:Hid (xc (dS b) (bO b T).need T []=mJ b T):=rfl;have ai:=hI (O W);generalize (bO b T).need=n at *;generalize mJ b T=G at *;have I0:Hid (nG (W.alloc (.cells y 3)) W.heap.size (List.replicate n 0++[])):=by show _=_;rw[Rl,Y.out];exact QS _ _
 clear hS z H;go_enter func102,ntmps102
 go_upto_region 1 with fail
 rw[Z.out];go_wp2;clear q2 R p0 O
 go_loopg [7,8] n (fun ms bv kv wr=>∃(m f:Nat) (L:List Nat),m<=n/\ms=m/\bv=.int .i64 f/\kv=.int .i64 ((m:Int)-1)/\f<=T/\Hid (0<=qI (dS b) m f)/\Hid (xc (dS b) m f L=G)/\Hid (nG wr W.heap.size (List.replicate m 0++L))/\Hid (ab [] W wr))
 case atStart=>exact⟨n,T,[],by omega,rfl,rfl,by go_num,by omega,H0,A,I0,(ab.refl _ _).alloc _⟩
 case round =>
  obtain⟨m,f,L,hm,ar,rfl,rfl,hb,d,p,u,J⟩:=hrel;have P:=hI (t.out.trans J.out)
  cases m with
  | zero =>
   have HE:Hid (nG wr W.heap.size G):=by show nG wr W.heap.size G;have:=u.out;rw[<-p.out];simpa [xc] using this
   go_wp2;go_ret;exact⟨W.heap.size,rfl,HE.out,P.out⟩
  | succ q =>
   rw[qI]at d
   have v:f≠0:=fun e=>by
    have:=d.out;rw[QW e]at this;omega
   obtain⟨c,rfl⟩:∃c,f=c+1:=⟨f-1,by omega⟩
   rw[QT v,SD]at d
   have w:¬dS b c<0:=fun e=>by
    have:=d.out;rw[QW e]at this;omega
   rw[QT w]at d;rw[xc,SD]at p;have j:=J.out.get HB.out (by simp);have r0:wr.cell? ⟨S.heap.size,0,none⟩=some (.slice (some ⟨k,0,none⟩) b.length a):=by rw[aa j];rfl
   have r1:wr.cell? ⟨S.heap.size,1,none⟩=some (.int .i64 M):=by rw[aa j];rfl
   have r2:wr.cell? ⟨S.heap.size,2,none⟩=some (.string N):=by rw[aa j];rfl
   have r3:wr.cell? ⟨S.heap.size,3,none⟩=some (.int .i64 g):=by rw[aa j];rfl
   have r4:wr.cell? ⟨S.heap.size,4,none⟩=some (.int .i64 z0):=by rw[aa j];rfl
   have ap:=ae j;have an:=ae u.out;have u0:=am u.out q
   have u1:wr.cell? ⟨W.heap.size,q,none⟩=some (.int .i64 0):=by
    rw[aa u.out];simp[jX,List.replicate_succ']
   have ax:(q:Int)<(n:Int):=by omega
   have af:((q:Int)+1-1)=(q:Int):=by omega
   have HC:Hid (∀r,ab [] W r->Calls prog 132 #[.agg #[.slice (some ⟨k,0,none⟩) b.length a,.int .i64 M,.string N,.int .i64 g,.int .i64 z0],.int .i64 c] r fun e x=>e=.returned (.int .i64 (dS b c))/\ab [] r x):=fun r kx=>tJ b _ a M N g z0 hl hN (c+1) c r (by omega) (by omega) (cm.Vb HS.out kx)
   have B:=vN b c;obtain⟨U,s⟩:∃U:Nat,dS b c=U:=⟨(dS b c).toNat,by omega⟩
   rw[s]at HC p d B;rw[Sa]at p d;obtain⟨X,E⟩:∃X,Hid (wr.setCell ⟨W.heap.size,q,none⟩ (.int .i64 (c:Int))=X):=⟨_,rfl⟩
   have h:Hid (ab [] W X):=by show ab [] W X;rw[<-E.out];exact J.out.setCell (QV (by simp)) _
   have F:Hid (nG X W.heap.size (List.replicate q 0++c :: L)):=by
    show _=_
    rw[<-E.out,ah u.out]
    congr 2
    have:=N3 q c L;rw[<-this];simp
   have i:=h.out.get HB.out (by simp);have x0:X.cell? ⟨S.heap.size,0,none⟩=some (.slice (some ⟨k,0,none⟩) b.length a):=by rw[aa i];rfl
   have x1:X.cell? ⟨S.heap.size,1,none⟩=some (.int .i64 M):=by rw[aa i];rfl
   have x2:X.cell? ⟨S.heap.size,2,none⟩=some (.string N):=by rw[aa i];rfl
   have x3:X.cell? ⟨S.heap.size,3,none⟩=some (.int .i64 g):=by rw[aa i];rfl
   have x4:X.cell? ⟨S.heap.size,4,none⟩=some (.int .i64 z0):=by rw[aa i];rfl
   have xz:=ae i;have Q:=hI (HC.out X h.out);clear s w v
   go_upto_region 8 with fail
   rw[E.out];go_wp2_with (go_at_call 132;refine QU Q.out ?_;rintro e w1 ⟨rfl,C⟩;have I:=hI (h.out.trans C);have ac:=(show Hid (nG w1 W.heap.size (List.replicate q 0++c :: L)) from C.get F.out (by simp));clear C)
   go_roundg q
   case measure=>omega
   case rel=>exact⟨q,U,c :: L,by omega,rfl,rfl,by go_num,by omega,d,p,ac,I⟩
def kN(T:List Tk)(S:List Sm)(a:Nat)(e:List ByteArray):List ByteArray:=e.filter (fun x=>kZ T S x a)
theorem J4(h:f<d.length):kN l w T (d.take (f+1))=kN l w T (d.take f)++(if kZ l w d[f] T=true then [d[f]] else []):=by
 unfold kN;rw[RG h,RV]
 congr 1
 cases a:kZ l w d[f] T
 ·rw[Ss (by rw[a];simp)];rfl
 ·rw[SG (p:=fun x=>kZ l w x T) a];rfl
theorem qW(Y:fz S zb l o a w z4 T)(U:nK l w x)(X:ge S y8 H)(hl:H.length<=900000000) :
  Calls prog 241 #[.pointer (some ⟨zb,0,none⟩),.int .i64 x,.slice y8 H.length y] S fun e n=>∃b,e=.returned (.slice b.ao (kN l w x H).length b.cap)/\gw S n b (aB (kN l w x H)):=by
 have HD:=hI Y;have c:=hI U.ok;have M:=hI X;have P:Hid (gw S S ⟨none,0⟩ (aB [])):=⟨QZ _ _ _ _,(by intro k Z;cases Z),ab.refl _ _⟩;obtain⟨iS,N,r,C,A⟩:=Re js;clear Y U X;go_enter func241,ntmps241;go_wp2
 go_loopg [7,8] H.length (fun g ac i wr=>∃(k:Nat) (b:Hd) (O:List ByteArray),k<=H.length/\g=H.length-k/\ac=.slice b.ao O.length b.cap/\i=.int .i64 k/\O.length<=k/\Hid (O=kN l w x (H.take k))/\Hid (gw S wr b (aB O)))
 case atStart=>exact⟨0,⟨none,0⟩,[],by omega,rfl,rfl,rfl,by simp,by show _=_;simp[kN],P⟩
 case round =>
  obtain⟨k,b,O,Z,hg,rfl,rfl,hO,HE,z⟩:=hrel
  by_cases u:k<H.length
  ·have ad:(k:Int)<(H.length:Int):=by omega
   obtain⟨L,rfl,h,D⟩:=(ge.Vb M.out z.out.kept) k H[k] (QP u);have f:=hI (J4 l w x H k u);rw[<-HE.out]at f;have F:=hI (AJ zb x H[k] l o a w z4 T wr (fz.Vb HD.out z.out.kept) c.out.m c.out.s c.out.t c.out.v);have K:Hid (∀n,ab [] wr n->n.cell? ⟨L,k,none⟩=some (.string H[k])/\L<n.heap.size):=fun n V=>⟨by rw[Q6 (V.block L h (by simp))];exact D,QX h V.size⟩
   generalize H[k]=E at *;obtain⟨Q,J⟩:∃Q,Hid (kZ l w E x=Q):=⟨_,rfl⟩
   rw[J.out]at F f
   cases Q
   ·have q:Hid (O=kN l w x (H.take (k+1))):=by have:=f.out;rw[QT (by simp),Rl]at this;exact this.symm
    go_wp2_with (go_at_call 173;refine QU F.out ?_;rintro e W ⟨rfl,p⟩;have d:=hI (z.out.Vb p);clear p)
    go_roundg (H.length-(k+1))
    case measure=>omega
    case rel=>exact⟨k+1,b,O,by omega,rfl,rfl,by go_num,by omega,q,d⟩
   ·have q:Hid (O++[E]=kN l w x (H.take (k+1))):=by have:=f.out;rw[QW rfl]at this;exact this.symm
    go_upto_region 7 with (go_at_call 173;refine QU F.out ?_;rintro e W ⟨rfl,p⟩)
    have d:=hI (z.out.Vb p);obtain⟨d0,d1⟩:=K.out W p;have G:=d.out.own;have I:(aB O).n<=900000000:=by show O.length<=_;omega
    clear p D h;go_wp2_with (at_builtin;refine bN _ rfl (.tmp 24) (.tmp 29) 61 rfl iS (.string ⟨#[]⟩) 16 b (aB O) [.string E] underlying61 N r C A rfl Rc rfl G I (by omega) rfl rfl (by simp[Value.oneCell']) ?_;intro h5 w5 j B;rw[dr]at j;have R:=hI (d.out.Vl B j);clear j B)
    go_roundg (H.length-(k+1))
    case measure=>omega
    case rel=>exact⟨k+1,h5,O++[E],by omega,rfl,by simp[aB],by go_num,by simp;omega,q,R⟩
  ·have e:k=H.length:=by omega
   subst e;have q:Hid (kN l w x H=O):=by show _=_;rw[HE.out,RK]
   go_wp2;go_ret;exact⟨b,by rw[q.out];rfl,by rw[q.out];exact z.out⟩
def DP(T:List Tk)(S:List Sm)(a:Nat)(Y:List ByteArray)(x:ByteArray):Bool:=Y.all (fun y=>hQ T S x y a)
def tL(T:List Tk)(S:List Sm)(a:Nat)(E F:List ByteArray):Bool:=(kN T S a E).all (DP T S a (kN T S a F))
theorem FZ{p:ByteArray->Bool}(h:f<D.length)(a:p D[f]=false):D.all p=false:=by
 rw[Ue];exact⟨D[f],Rb h,by rw[a];simp⟩
theorem Ba{p:ByteArray->Bool}(c:v=D.length)(h:∀k (a:k<D.length),k<v->p D[k]=true):D.all p=true:=by
 rw[Sn];intro x b;obtain⟨k,a,e⟩:=R0 b;rw[<-e];exact h k a (by omega)
theorem zp:(kN l w T d).length<=d.length:=Sc _ _
theorem Hz(T:List Tk)(d:Option Addr)(I:Nat)(S:List Sm)(n:Option Addr)(L:Nat)(w:World)(N:fz w zb T d I S n L)(J:nK T S x)(hE:ge w z4 i)(hF:ge w z3 H)(hl:i.length<=900000000)(P:H.length<=900000000) :
  Calls prog 214 #[.pointer (some ⟨zb,0,none⟩),.int .i64 x,.slice z4 i.length z2,.slice z3 H.length f] w fun e v=>e=.returned (.bool (tL T S x i H))/\ab [] w v:=by
 have HD:=hI N;have R:=hI J;have F:=hI (qW zb x i z4 z2 T d I S n L w N J hE hl);have E:Hid (∀c,ab [] w c->Calls prog 241 #[.pointer (some ⟨zb,0,none⟩),.int .i64 x,.slice z3 H.length f] c fun e v=>∃h',e=.returned (.slice h'.ao (kN T S x H).length h'.cap)/\gw c v h' (aB (kN T S x H))):=fun c M=>qW zb x H z3 f T d I S n L c (N.Vb M) J (hF.Vb M) P
 have HR:Hid (tL T S x i H=(kN T S x i).all (DP T S x (kN T S x H))):=rfl;have ag:=zp T S x i;have an:=zp T S x H;generalize kN T S x i=X at *;generalize kN T S x H=Y at *;clear N J hE hF;go_enter func214,ntmps214
 go_upto_region 2 with (go_at_call 241;refine QU F.out ?_;rintro e w1 ⟨h1,rfl,G⟩)
 have A:=hI (E.out w1 G.kept)
 go_upto_region 3 with (go_at_call 241;refine QU A.out ?_;rintro e w2 ⟨h2,rfl,K⟩)
 have HX:=(show Hid _ from(G.own.srcX.Vb K.kept));have HY:=hI K.own.srcX;have s:=hI (G.kept.trans K.kept);clear G K F E A;obtain⟨a1,c1⟩:=h1;obtain⟨a2,c2⟩:=h2;go_wp2
 go_loopg [11] X.length (fun g W wr=>∃k:Nat,k<=X.length/\g=X.length-k/\W=.int .i64 k/\Hid (∀j (l:j<X.length),j<k->DP T S x Y X[j]=true)/\Hid (ab [] w2 wr))
 case atStart=>exact⟨0,by omega,rfl,rfl,(fun j _ l=>by omega),ab.refl _ _⟩
 case round =>
  obtain⟨k,hk,hg,rfl,HN,HK⟩:=hrel
  by_cases C:k<X.length
  ·have Z:(k:Int)<(X.length:Int):=by omega
   obtain⟨V,eX,z,qX⟩:=HX.out k X[k] (QP C);replace eX:a1=some ⟨V,0,none⟩:=eX;subst eX;have ac:Hid (DP T S x Y X[k]=false->tL T S x i H=false):=fun h=>by rw[HR.out];exact FZ k C h
   have ad:Hid (DP T S x Y X[k]=true->∀j (l:j<X.length),j<k+1->DP T S x Y X[j]=true):=fun h j l h2=>by
    by_cases e:j=k
    ·subst e;exact h
    ·exact HN.out j l (by omega)
   generalize X[k]=b at *;go_wp2
   go_loopg [12] Y.length (fun g W wr=>∃m:Nat,m<=Y.length/\g=Y.length-m/\W=.int .i64 m/\Hid (∀j (l:j<Y.length),j<m->hQ T S b Y[j] x=true)/\Hid (ab [] w2 wr))
   case atStart=>exact⟨0,by omega,rfl,rfl,(fun j _ l=>by omega),HK⟩
   case round =>
    obtain⟨m,hm,al,rfl,D,a⟩:=hrel
    by_cases o:m<Y.length
    ·have U:(m:Int)<(Y.length:Int):=by omega
     obtain⟨gY,O,ar,qY⟩:=(ge.Vb HY.out a.out) m Y[m] (QP o);replace O:a2=some ⟨gY,0,none⟩:=O;subst O;have ai:wr.cell? ⟨V,k,none⟩=some (.string b):=by rw[Q6 (a.out.block V z (by simp))];exact qX
     have af:=QX z a.out.size;have B:Hid (∀c,ab [] wr c->Calls prog 94 #[.pointer (some ⟨zb,0,none⟩),.string b,.string Y[m],.int .i64 x] c fun e v=>e=.returned (.bool (hQ T S b Y[m] x))/\ab [] c v):=fun c M=>vI zb x b Y[m] T d I S n L c (fz.Vb HD.out ((s.out.trans a.out).trans M)) R.out
     have r:Hid (hQ T S b Y[m] x=false->DP T S x Y b=false):=fun h=>FZ (p:=fun y=>hQ T S b y x) m o h
     have q:Hid (hQ T S b Y[m] x=true->∀j (l:j<Y.length),j<m+1->hQ T S b Y[j] x=true):=fun h j l h2=>by
      by_cases e:j=m
      ·subst e;exact h
      ·exact D.out j l (by omega)
     generalize Y[m]=y at *;obtain⟨ap,Q⟩:∃ap,Hid (hQ T S b y x=ap):=⟨_,rfl⟩
     rw[Q.out]at B r q
     go_upto_region 9 with fail
     go_region_with (go_at_call 94;refine(B.out _ (by exact(ab.refl [] wr).drew)).mono ?_;rintro e w3 ⟨rfl,k3⟩)
     all_goals
      have u:=(show Hid _ from(a.out.drew).trans k3)
      cases ap
      ·have t:=hI (ac.out (r.out rfl))
       go_wp2;go_ret;exact⟨aD t.out.symm,s.out.trans u.out⟩
      ·have t:=hI (q.out rfl)
       go_wp2
       go_roundg (Y.length-(m+1))
       case measure=>omega
       case rel=>exact⟨m+1,by omega,rfl,by go_num,t,u⟩
    ·have e:m=Y.length:=by omega
     have t:=hI (ad.out (Ba e D.out));have U:¬(m:Int)<(Y.length:Int):=by omega
     go_wp2
     go_roundg (X.length-(k+1))
     case measure=>omega
     case rel=>exact⟨k+1,by omega,rfl,by go_num,t,a⟩
  ·have e:k=X.length:=by omega
   have t:Hid (tL T S x i H=true):=by show _=_;rw[HR.out];exact Ba e HN.out
   have Z:¬(k:Int)<(X.length:Int):=by omega
   go_wp2;go_ret;exact⟨aD t.out.symm,s.out.trans HK.out⟩
structure Sl where
 ao:Option Addr
 cap:Nat
 L:List ByteArray
def Ff(s:Sl):List Value:=[.slice s.ao s.L.length s.cap]
theorem vw(s:Sl):(Ff s).length=1:=rfl
def lA(A:List Sl):dN:=kU 61 1 Ff A
theorem qw(L:List Sl)(x:Sl):(⟨(lA L).e,(lA L).size,(lA L).n+1,(lA L).xs++Ff x⟩:dN)=lA (L++[x]):=gM _ _ _ _ _
structure pr(w:World)(s:Sl):Prop where
 src:∀(k:Nat) (x:ByteArray),s.L[k]?=some x->∃g o,s.ao=some ⟨g,o,none⟩/\g<w.heap.size/\w.cell? ⟨g,o+k,none⟩=some (.string x)
 nil:s.ao=none->s.L.length=0/\s.cap=0
 le:s.L.length<=s.cap
theorem pr.Vb{s:Sl}(h:pr k s)(b:ab [] k zt):pr zt s :=
 ⟨fun j x c=>by
  obtain⟨g,o,e,a,d⟩:=h.src j x c;exact⟨g,o,e,QX a b.size,by rw[Q6 (b.block g a (by simp))];exact d⟩,h.nil,h.le⟩
def pa(w:World)(A:List Sl):Prop:=∀s∈A,pr w s
theorem pa.Vb{A:List Sl}(h:pa k A)(a:ab [] k zt):pa zt A:=fun s b=>(h s b).Vb a
theorem GZ:(⟨T,z2,none⟩:Addr).add f=⟨T,z2+f,none⟩:=by
 simp only[Addr.add]
 split
 ·next h=>subst h;rfl
 ·rfl
theorem pr.cells{s:Sl}(h:pr k s):∀b,s.ao=some b->∀j u,(cN s.L)[j]?=some u->k.cell? (b.add j)=some u:=by
 intro b e j u a;rw[cN,Rq]at a
 cases d:s.L[j]? with
 | none=>rw[d]at a;cases a
 | some x =>
  rw[d]at a
  cases a
  obtain⟨g,o,f,-,c⟩:=h.src j x d;rw[e]at f
  cases f
  rw[GZ];exact c
theorem gw.sl(a:gw k zt y6 (aB D)):pr zt ⟨y6.ao,y6.cap,D⟩ :=
 ⟨fun d x f=>by
  obtain⟨g,e,b,c⟩:=a.own.srcX d x f;exact⟨g,0,e,b,by rw[SJ];exact c⟩,a.none,a.le⟩
def wt(V:List ByteArray)(x:ByteArray):Nat:=V.findIdx (fun y=>(y.toList==x.toList))
def LZ(V:List ByteArray)(A:List (List ByteArray))(x:ByteArray):List ByteArray:=if wt V x<V.length then A.getD (wt V x) [] else [x]
def iU(V:List ByteArray)(A:List (List ByteArray))(e:List ByteArray):List ByteArray:=e.flatMap (LZ V A)
theorem Ny(b:v<D.length)(h:(D[v].toList==y7.toList)=true)(c:∀j (a:j<D.length),j<v->(D[j].toList==y7.toList)=false):wt D y7=v:=by
 unfold wt;rw[List.findIdx_eq b];exact⟨h,fun j a=>c j (by omega) a⟩
theorem Lp(d:v=D.length)(c:∀j (a:j<D.length),j<v->(D[j].toList==y7.toList)=false):wt D y7=D.length:=by
 unfold wt;rw[List.findIdx_eq_length];intro y b;obtain⟨j,a,e⟩:=R0 b;rw[<-e];exact c j a (by omega)
theorem L7(A:List (List ByteArray))(e:List ByteArray)(k:Nat)(h:k<e.length):iU d A (e.take (k+1))=iU d A (e.take k)++LZ d A e[k]:=by
 unfold iU;rw[RG h,Sh];simp
def QL:Sl:=⟨none,0,[]⟩
def fQ(A:List Sl)(i:Nat):Sl:=A.getD i QL
theorem GM(A:List Sl)(i:Nat)(h:i<A.length):A[i]?=some (fQ A i):=by
 unfold fQ;rw[QQ,QP h];rfl
theorem jK(A:List Sl)(i:Nat)(h:i<A.length):fQ A i∈A:=R4 (GM A i h)
theorem cm.sl{A:List Sl}(h:cm k y5 1 Ff A)(a:Nat)(d:a<A.length):∃g,y5=some ⟨g,0,none⟩/\g<k.heap.size/\k.cell? ⟨g,a,none⟩=some (.slice (fQ A a).ao (fQ A a).L.length (fQ A a).cap):=by
 obtain⟨g,e,b,c⟩:=h a _ (GM A a d);refine⟨g,e,b,?_⟩;have:=c 0 _ rfl;simpa using this
theorem wF(A:List Sl)(k:Nat)(h:k<A.length):(A.map (·.L)).getD k []=(fQ A k).L:=by
 unfold fQ;rw[QQ,QQ,Rq,QP h];rfl
theorem CN(A:List Sl)(r:Option Addr)(cA:Nat)(E:List ByteArray)(Y:Option Addr)(cE:Nat)(w:World)(hV:ge w z3 H)(hA:cm w r 1 Ff A)(ai:pa w A)(bk:H.length<=A.length)(bf:A.length<=100000)(hE:ge w Y E)(bg:E.length<=10000)(ad:∀s∈A,s.L.length<=10000) :
  Calls prog 179 #[.agg #[.slice z3 H.length f,.slice r A.length cA],.slice Y E.length cE] w fun e d=>∃c,e=.returned (.slice c.ao (iU H (A.map (·.L)) E).length c.cap)/\gw w d c (aB (iU H (A.map (·.L)) E)):=by
 obtain⟨W,HW⟩:∃W,Hid (w.alloc (.cells #[.slice z3 H.length f,.slice r A.length cA] 271)=W):=⟨_,rfl⟩
 have BW:W.heap[w.heap.size]?=some (.cells #[.slice z3 H.length f,.slice r A.length cA] 271 (0,0)):=by rw[<-HW.out];exact QS _ _
 have I:Hid (ab [] w W):=by show ab [] w W;rw[<-HW.out];exact(ab.refl [] _).alloc _
 have HB:=hI BW;have HV:=hI hV;have HA:=hI hA;have a4:=hI ai;have HE:=hI hE;have a3:=hI ad;have bs:Hid (gw w W ⟨none,0⟩ (aB [])):=⟨QZ _ _ _ _,(by intro k Q;cases Q),I.out⟩;obtain⟨iS,ax,C,B,z⟩:=Re js;have U:Hid (([]:List ByteArray)=iU H (A.map (·.L)) (E.take 0)):=by show _=_;simp[iU]
 obtain⟨M,V⟩:∃M,Hid (A.map (·.L)=M):=⟨_,rfl⟩
 rw[V.out]at U ⊢;have az:Hid (∀k,k<A.length->M.getD k []=(fQ A k).L):=fun k Q=>by rw[<-V.out];exact wF A k Q
 clear hV hA ai hE ad
 have ba:Hid (∀wr,ab [] w wr->wr.heap[w.heap.size]?=W.heap[w.heap.size]?->wr.cell? ⟨w.heap.size,0,none⟩=some (.slice z3 H.length f)/\wr.cell? ⟨w.heap.size,1,none⟩=some (.slice r A.length cA)/\w.heap.size<wr.heap.size):=fun wr _ e=>by
  rw[HB.out]at e;exact⟨by rw[aa e];rfl,by rw[aa e];rfl,ae e⟩
 go_enter func179,ntmps179
 go_upto_region 1 with fail
 rw[HW.out];go_wp2
 go_loopg [5,6] E.length (fun g o i wr=>∃(k:Nat) (c:Hd) (O:List ByteArray),k<=E.length/\g=E.length-k/\o=.slice c.ao O.length c.cap/\i=.int .i64 k/\O.length<=10000*k/\Hid (O=iU H M (E.take k))/\Hid (gw W wr c (aB O)))
 case atStart=>exact⟨0,⟨none,0⟩,[],by omega,rfl,rfl,rfl,by simp,U,⟨QZ _ _ _ _,(by intro k Q;cases Q),ab.refl _ _⟩⟩
 case round =>
  obtain⟨k,c,O,Q,hg,rfl,rfl,hO,HO,X⟩:=hrel
  by_cases ag:k<E.length
  ·have bl:(k:Int)<(E.length:Int):=by omega
   obtain⟨gE,rfl,an,a7⟩:=HE.out k E[k] (QP ag);have N:=hI (L7 H M E k ag);rw[<-HO.out]at N;have a0:Hid (∀d,ab [] w d->d.cell? ⟨gE,k,none⟩=some (.string E[k])/\gE<d.heap.size):=fun d kw=>⟨by rw[Q6 (kw.block gE an (by simp))];exact a7,QX an kw.size⟩
   generalize E[k]=x at *;have al:Hid (LZ H M x=if wt H x<H.length then M.getD (wt H x) [] else [x]):=rfl;go_wp2
   go_loopg [7] (H.length) (fun g i wr=>∃q:Nat,q<=H.length/\g=H.length-q/\i=.int .i64 q/\Hid (∀j (hj:j<H.length),j<q->(H[j].toList==x.toList)=false)/\Hid (gw W wr c (aB O)))
   case atStart=>exact⟨0,by omega,rfl,rfl,(fun j _ hj=>by omega),X⟩
   case round =>
    obtain⟨q,hq,bo,rfl,K,l⟩:=hrel;have m:=hI (I.out.trans l.out.kept);have a5:=hI (l.out.kept.get HB.out (by simp));obtain⟨b0,b1,be⟩:=ba.out wr m.out (by rw[a5.out,HB.out]);obtain⟨d0,d1⟩:=a0.out wr m.out
    by_cases F:q<H.length
    ·have aT:(q:Int)<(H.length:Int):=by omega
     obtain⟨gV,eV,bj,bp⟩:=(ge.Vb HV.out m.out) q H[q] (QP F);subst eV;have Z:Hid ((H[q].toList==x.toList)=true->wt H x=q):=fun h=>Ny F h K.out
     have af:Hid ((H[q].toList==x.toList)=false->∀j (hj:j<H.length),j<q+1->(H[j].toList==x.toList)=false):=fun h j hj h2=>by
      by_cases e:j=q
      ·subst e;exact h
      ·exact K.out j hj (by omega)
     generalize H[q]=y at *
     cases hy:(y.toList==x.toList)
     ·have HM:=hI (af.out hy)
      go_upto_region 6 with fail
      go_quiet (fail)
      have a:=hI (l.out.Vb ((ab.refl [] wr).drewN nq));go_wp2
      go_roundg (H.length-(q+1))
      case measure=>omega
      case rel=>exact⟨q+1,by omega,rfl,by go_num,HM,a⟩
     ·have ac:=Z.out hy
      have t:q<A.length:=by omega
      have bd:(q:Int)<(A.length:Int):=by omega
      obtain⟨gA,eA,ap,ar⟩:=cm.sl (cm.Vb HA.out m.out) q t;subst eA;have G:=(show Hid _ from(pa.Vb a4.out m.out) (fQ A q) (jK A q t));have a2:=a3.out (fQ A q) (jK A q t)
      have u:Hid (O++(fQ A q).L=iU H M (E.take (k+1))):=by
       show _=_
       rw[N.out,al.out,ac,QW F,az.out q t]
      have a6:Hid (∀d,ab [] wr d->d.cell? ⟨gA,q,none⟩=some (.slice (fQ A q).ao (fQ A q).L.length (fQ A q).cap)/\gA<d.heap.size):=fun d kw=>⟨by rw[Q6 (kw.block gA ap (by simp))];exact ar,QX ap kw.size⟩
      clear ac;generalize fQ A q=s at *;obtain⟨T,D,S⟩:=s;simp only at ar G a2 u a6
      go_upto_region 6 with fail
      go_quiet (fail)
      have R:=(ab.refl [] wr).drewN nq;have a:=hI (l.out.Vb R);have v:=hI (pr.Vb G.out R);have a1:=hI v.out.cells;have bc:Hid (T=none->S.length=0/\D=0):=v.out.nil;have J:=a.out.own;clear R G;go_wp2_with (at_builtin;refine ed _ rfl (.tmp 38) (.tmp 43) 61 rfl iS (.string ⟨#[]⟩) 16 c (aB O) underlying61 ax C B z rfl Rc rfl J T S.length D (cN S) rfl (by simp[aB,cN]) bc.out a1.out (lY S) (by simp only[aB];omega) (by omega) ?_;intro h5 w5 b p;rw[CT]at b;have P:=hI (a.out.Vl p b);clear b p)
      go_roundg (E.length-(k+1))
      case measure=>omega
      case rel=>exact⟨k+1,h5,O++S,by omega,rfl,by simp[aB],by go_num,by simp;omega,u,P⟩
    ·have eq:q=H.length:=by omega
     have aT:decide ((q:Int)<(H.length:Int))=false:=Sb (by omega);have br:¬(q:Int)<(H.length:Int):=by omega
     have u:Hid (O++[x]=iU H M (E.take (k+1))):=by
      show _=_
      rw[N.out,al.out,Lp eq K.out,QT (by omega)]
     go_upto_region 6 with fail
     go_quiet (fail)
     have R:=(ab.refl [] wr).drewN nq;have a:=hI (l.out.Vb R);have J:=a.out.own;have aS:(aB O).n<=900000000:=by show O.length<=_;omega
     clear R;go_wp2_with (at_builtin;refine bN _ rfl (.tmp 45) (.tmp 50) 61 rfl iS (.string ⟨#[]⟩) 16 c (aB O) [.string x] underlying61 ax C B z rfl Rc rfl J aS (by omega) rfl rfl (by simp[Value.oneCell']) ?_;intro h5 w5 b p;rw[dr]at b;have P:=hI (a.out.Vl p b);clear b p)
     go_roundg (E.length-(k+1))
     case measure=>omega
     case rel=>exact⟨k+1,h5,O++[x],by omega,rfl,by simp[aB],by go_num,by simp;omega,u,P⟩
  ·have e:k=E.length:=by omega
   subst e;have HM:Hid (iU H M E=O):=by show _=_;rw[HO.out,RK]
   go_wp2;go_ret;exact⟨c,by rw[HM.out];rfl,by rw[HM.out];exact X.out.base I.out⟩
def GI(S:List Sm)(hs:List Nat)(i:Nat):Bool:=((au S (hs.getD i 0)).k.toList == [36,102])
def xO(S:List Sm)(hs:List Nat)(k:Nat):List Nat:=(List.range k).filter (GI S hs)
def cI(T:List Tk)(S:List Sm)(j:Nat):List ByteArray:=bu T (au S j).h
def gK(T:List Tk)(S:List Sm)(hs:List Nat)(k:Nat):List ByteArray:=(xO S hs k).map (fun i=>(cI T S (hs.getD i 0)).getD 1 ⟨#[]⟩)
def gi(S:List Sm)(hs:List Nat)(M:List (List ByteArray))(k:Nat):List (List ByteArray):=(xO S hs k).map (fun i=>(M.getD i []).drop 1)
theorem Jn:xO w n (f+1)=xO w n f++(if GI w n f=true then [f] else []):=gZ _ _
theorem Ej:(prog.info? 61).map (fun i=>(i.zero,i.size,i.bytes))=some (some (.slice none 0 0),1,24):=by kernel_rfl
structure Ki(w wr:World)(V:List ByteArray)(hv:Hd)(B:List Sl)(hb:Hd):Prop where
 r:wr.heap[w.heap.size]?=some (.cells #[.slice none 0 0,.slice none 0 0] 271 (0,0))
 c:wr.heap[w.heap.size+1]?=some (.cells #[.slice hv.ao V.length hv.cap,.slice hb.ao B.length hb.cap] 271 (0,0))
 v:aw wr hv (aB V)
 b:aw wr hb (lA B)
 fv:∀k,hv.blk=some k->w.heap.size+1<k
 fb:∀k,hb.blk=some k->w.heap.size+1<k
 ap:∀k,hv.blk=some k->hb.blk≠some k
 s:pa w B
 kept:ab [] w wr
section
variable {w wr w5:World} {V V':List ByteArray} {hv hb h5:Hd} {B B':List Sl}
theorem Ki.Vb(a:Ki w wr V hv B hb)(k:ab [] wr w5):Ki w w5 V hv B hb :=
 ⟨k.get a.r (by simp),k.get a.c (by simp),a.v.Vb k,a.b.Vb k,a.fv,a.fb,a.ap,a.s,a.kept.trans k⟩
theorem BO(f:∀k,y6.blk=some k->v<k)(b:v<wr.heap.size)(g:bt wr w5 y6 h5):∀k,h5.blk=some k->v<k:=fun k a=>by
 rcases g.blk with e | ⟨q,e,c⟩
 ·exact f k (by rw[<-e];exact a)
 ·rw[e]at a;cases a;omega
theorem wl{h o:Hd}{r:dN}(c:∀k,h.blk=some k->o.blk≠some k)(d:aw wr o r)(g:bt wr w5 h h5):∀k,h5.blk=some k->o.blk≠some k:=fun k b a=>by
 rcases g.blk with e | ⟨q,e,f⟩
 ·exact c k (by rw[<-e];exact b) a
 ·rw[e]at b;cases b
  have:=d.lt a;omega
theorem Ki.addV(a:Ki w wr V hv B hb)(g:bt wr w5 hv h5)(o:aw w5 h5 (aB V')){m:Nat}(e:m=V'.length):Ki w (w5.setCell ⟨w.heap.size+1,0,none⟩ (.slice h5.ao m h5.cap)) V' h5 B hb:=by
 subst e;have j:∀q,q<=w.heap.size+1->q∉hv.blk.toList:=fun q d e=>by have:=a.fv q (aN e);omega
 have u:=ae a.c;have p:=g.kept.get a.r (j _ (by omega));have v:=g.kept.get a.c (j _ (by omega));have l:=BO a.fv u g;have i:aw w5 hb (lA B):=g.beside a.b (fun k t f=>a.ap k f t);have h:ab [w.heap.size+1] w5 (w5.setCell ⟨w.heap.size+1,0,none⟩ (.slice h5.ao V'.length h5.cap)):=(ab.refl _ _).setCell (Q1 (by simp)) _;have n:ab [] w w5:=pK g.kept (fun q d=>by have:=a.fv q (aN d);omega) a.kept;exact⟨h.get p (by simp),by rw[ah v];rfl,o.Vg (fun q d=>h.block q (o.lt d) (by simp;have:=l q d;omega)),i.Vg (fun q d=>h.block q (i.lt d) (by simp;have:=a.fb q d;omega)),l,a.fb,wl a.ap a.b g,a.s,n.setCell (QV (by simp)) _⟩
theorem Ki.addB(a:Ki w wr V hv B hb)(g:bt wr w5 hb h5)(o:aw w5 h5 (lA B'))(s:pa w B'){m:Nat}(f:m=B'.length):Ki w (w5.setCell ⟨w.heap.size+1,1,none⟩ (.slice h5.ao m h5.cap)) V hv B' h5:=by
 subst f;have n:∀q,q<=w.heap.size+1->q∉hb.blk.toList:=fun q d f=>by have:=a.fb q (aN f);omega
 have x:=ae a.c;have t:=g.kept.get a.r (n _ (by omega));have y:=g.kept.get a.c (n _ (by omega));have l:=BO a.fb x g;have p:aw w5 hv (aB V):=g.beside a.v (fun k e b=>a.ap k e b);have i:ab [w.heap.size+1] w5 (w5.setCell ⟨w.heap.size+1,1,none⟩ (.slice h5.ao B'.length h5.cap)):=(ab.refl _ _).setCell (Q1 (by simp)) _;have u:ab [] w w5:=pK g.kept (fun q d=>by have:=a.fb q (aN d);omega) a.kept;have j:=wl (h:=hb) (o:=hv) (fun k e b=>a.ap k b e) a.v g;exact⟨i.get t (by simp),by rw[ah y];rfl,p.Vg (fun q d=>i.block q (p.lt d) (by simp;have:=a.fv q d;omega)),o.Vg (fun q d=>i.block q (o.lt d) (by simp;have:=l q d;omega)),a.fv,l,fun k e b=>j k b e,s,u.setCell (QV (by simp)) _⟩
end
theorem J2{d e:Value}(h:k.heap[v]?=some (.cells #[d,e] 271 (0,0)))(a b:Value) :
  (k.setCell ⟨v,0,none⟩ a).cell? ⟨v,0,none⟩=some a/\((k.setCell ⟨v,0,none⟩ a).setCell ⟨v,1,none⟩ b).cell? ⟨v,1,none⟩=some b:=by
 have c:=ah h 0 a;have f:=ah c 1 b;exact⟨by rw[aa c];rfl,by rw[aa f];rfl⟩
theorem pr.tail{o n:Nat}(a:pr k ⟨some ⟨v,o,none⟩,n,D⟩):pr k ⟨some ⟨v,o+1,none⟩,n-1,D.drop 1⟩:=by
 have d:=a.le;simp only at d;refine⟨fun b x f=>?_,fun h=>(by cases h),(by simp;omega)⟩;simp only[List.getElem?_drop]at f;obtain⟨i,j,e,g,c⟩:=a.src (1+b) x f
 cases e
 exact⟨v,o+1,rfl,g,by rw[show o+1+b=o+(1+b) by omega];exact c⟩
theorem pr.none0(h:y5=none->v=0):pr k ⟨y5,v,[]⟩:=⟨fun b x a=>by simp at a,fun e=>⟨rfl,h e⟩,Ro _⟩
theorem Ju(A:List Sl)(b2:Option Addr)(cA:Nat)(b:World)(hD:fz b I l o a w z4 T)(ok:nK l w y)(hH:qD b z3 n)(H:∀j∈n,j<y)(c8:n.length<=10000)(hA:cm b b2 1 Ff A)(bw:pa b A)(db:n.length<=A.length)(hF:∀i,i<n.length->GI w n i=true->1<(cI l w (n.getD i 0)).length)(hN:∀s∈A,0<s.L.length) :
  Calls prog 177 #[.pointer (some ⟨I,0,none⟩),.slice z3 n.length f,.slice b2 A.length cA] b fun e w'=>∃u t B,e=.returned (.agg #[.slice u.ao (gK l w n n.length).length u.cap,.slice t.ao B.length t.cap])/\B.map (·.L)=gi w n (A.map (·.L)) n.length/\pa b B/\gw b w' u (aB (gK l w n n.length))/\gw b w' t (lA B):=by
 have HD:=hI hD;have cf:=hI ok;have cL:=ok.sm;have cE:=ok.tm;have hn:=ok.ok.m;have HH:=hI hH;have cc:=hI H;have HA:=hI hA;have cl:=hI bw;have HF:=hI hF;have HN:=hI hN;obtain⟨iS,cu,be,a6,a5⟩:=Re js;obtain⟨iL,br,ac,af,ag⟩:=Re Ej
 have S0:Hid (Ki b ((b.alloc (.cells #[.slice none 0 0,.slice none 0 0] 271)).alloc (.cells #[.slice none 0 0,.slice none 0 0] 271)) [] ⟨none,0⟩ [] ⟨none,0⟩):=by
  obtain⟨W1,S⟩:∃W1,W1=b.alloc (.cells #[.slice none 0 0,.slice none 0 0] 271):=⟨_,rfl⟩
  have z1:W1.heap.size=b.heap.size+1:=by rw[S];simp
  have k0:ab [] b W1:=by rw[S];exact(ab.refl [] _).alloc _
  have e0:W1.heap[b.heap.size]?=some (.cells #[.slice none 0 0,.slice none 0 0] 271 (0,0)):=by rw[S];exact QS _ _
  have k1:ab [] W1 (W1.alloc (.cells #[.slice none 0 0,.slice none 0 0] 271)):=(ab.refl [] _).alloc _
  show Ki _ _ _ _ _ _
  rw[<-S];exact⟨k1.get e0 (by simp),by rw[<-z1];exact QS _ _,QZ _ _ _ _,QZ _ _ _ _,(by intro k hk;cases hk),(by intro k hk;cases hk),(by intro k hk;cases hk),(fun s n=>by cases n),k0.trans k1⟩
 obtain⟨M,a7⟩:∃M,Hid (A.map (·.L)=M):=⟨_,rfl⟩
 rw[a7.out];have cb:Hid (∀k,k<A.length->M.getD k []=(fQ A k).L):=fun k hk=>by rw[<-a7.out];exact wF A k hk
 have ct:Hid (([]:List ByteArray)=gK l w n 0):=rfl;have co:Hid (([]:List Sl).map (·.L)=gi w n M 0):=rfl;clear hD ok hH H hA bw hF hN;go_enter func177,ntmps177;go_wp2
 go_loopg [8] n.length (fun g i wr=>∃(k:Nat) (V:List ByteArray) (u:Hd) (B:List Sl) (t:Hd),k<=n.length/\g=n.length-k/\i=.int .i64 k/\(V.length<=k/\B.length<=k)/\Hid (V=gK l w n k)/\Hid (B.map (·.L)=gi w n M k)/\Hid (Ki b wr V u B t))
 case atStart=>exact⟨0,[],⟨none,0⟩,[],⟨none,0⟩,by omega,rfl,rfl,⟨QR _,QR _⟩,ct,co,S0⟩
 case round =>
  obtain⟨k,V,u,B,t,hk,hg,rfl,⟨cR,c2⟩,HV,HB,z⟩:=hrel;have W:=hI z.out.kept
  by_cases H:k<n.length
  ·have cp:(k:Int)<(n.length:Int):=by omega
   have cj:=cc.out n[k] (Rb H);have Q:n[k]<w.length:=by omega
   obtain⟨gH,rfl,bf,bk⟩:=(qD.Vb HH.out W.out) k n[k] (QP H);have bp:=hI (fz.Vb HD.out W.out);obtain⟨t0,s0,b5⟩:=bp.out.cells;obtain⟨gs,rfl,cx,-,-,-,q3⟩:=bp.out.s.2 n[k] w[n[k]] (QP Q);have a0:n.getD k 0=n[k]:=by rw[QQ,QP H];rfl
   have a3:Hid (GI w n k=(w[n[k]].k.toList == [36,102])):=by show _=_;unfold GI;rw[a0,bM w n[k] Q]
   have G:=hI (Jn w n k);have cF:((n[k]:Nat):Int)<(w.length:Int):=by omega
   have c9:(0:Int)<=((n[k]:Nat):Int):=by omega
   have bc:Hid ((w[n[k]].k.toList == [36,102])=true->∀wx,ab [] b wx->Calls prog 72 #[.pointer (some ⟨I,0,none⟩),.int .i64 ((n[k]:Nat):Int)] wx fun e w'=>∃h',e=.returned (.slice h'.ao (bu l w[n[k]].h).length h'.cap)/\vj wx w' h' (bu l w[n[k]].h)):=fun h wx kx=>kD I n[k] l o a w _ T wx (fz.Vb HD.out kx) Q (by omega) (by have:=cf.out.e n[k] cj;rw[<-bM w n[k] Q]at this;exact this (fX h (by decide)))
   have a4:Hid (bu l w[n[k]].h=cI l w (n.getD k 0)):=by show _=_;unfold cI;rw[a0,bM w n[k] Q]
   rw[a4.out]at bc;have b0:=hI (HF.out k H);rw[a3.out]at G b0;clear a4 a3 a0;generalize w[n[k]].k=sk at *;generalize n[k]=j at *
   cases h1:(sk.toList == [36,102])
   ·rw[h1,QT (by simp),Rl]at G
    have Y:Hid (V=gK l w n (k+1)):=by show _=_;unfold gK;rw[G.out];exact HV.out
    have O:Hid (B.map (·.L)=gi w n M (k+1)):=by show _=_;unfold gi;rw[G.out];exact HB.out
    go_upto_region 5 with fail
    go_quiet (fail)
    have an:=hI (z.out.Vb ((ab.refl [] wr).drewN nq));go_wp2
    go_roundg (n.length-(k+1))
    case measure=>omega
    case rel=>exact⟨k+1,V,u,B,t,by omega,rfl,by go_num,⟨by omega,by omega⟩,Y,O,an⟩
   ·rw[h1,QW rfl]at G
    have bv:=b0.out h1;have ap:=hI (bc.out h1);obtain⟨X,HX⟩:∃X,Hid (cI l w (n.getD k 0)=X):=⟨_,rfl⟩
    rw[HX.out]at bv ap;have Y:Hid (V++[X.getD 1 ⟨#[]⟩]=gK l w n (k+1)):=by show _=_;unfold gK;rw[G.out,Ry,HV.out];simp only[List.map_cons,List.map_nil];rw[HX.out];rfl
    have Z:k<A.length:=by omega
    have O:Hid (B.map (·.L)++[(fQ A k).L.drop 1]=gi w n M (k+1)):=by show _=_;unfold gi;rw[G.out,Ry,HB.out];simp only[List.map_cons,List.map_nil];rw[cb.out k Z];rfl
    go_upto_region 5 with fail
    go_quiet (fail)
    go_upto_region 6 with fail
    obtain⟨W2,ad⟩:∃W2,Hid (wr.drewN nq=W2):=⟨_,rfl⟩
    rw[ad.out];have k2:ab [] wr W2:=by rw[<-ad.out];exact(ab.refl [] wr).drewN nq
    have an:=hI (z.out.Vb k2);have bl:=hI (ap.out W2 (W.out.trans k2));have bo:W2.cell? ⟨gH,k,none⟩=some (.int .i64 (j:Int)):=by rw[Q6 (k2.block gH bf (by simp))];exact bk
    have bj:=QX bf k2.size;clear t0 s0 b5 q3 bk cx k2 ap
    go_upto_region 7 with (go_at_call 72;refine QU bl.out ?_;rintro e w3 ⟨h3,rfl,x3⟩)
    have F:=hI (an.out.Vb x3.kept);obtain⟨gX,eX,ch,cX⟩:=x3.own.srcX 1 _ (mm X 1 bv);generalize X.getD 1 ⟨#[]⟩=x at *;rw[eX];have c4:(1:Int)<(X.length:Int):=by omega
    have p0:w3.cell? ⟨b.heap.size+1,0,none⟩=some (.slice u.ao V.length u.cap):=by rw[aa F.out.c];rfl
    have p1:=am F.out.c 0;have p2:=ae F.out.c;have cs:=F.out.v;have b4:Hid ((aB V).n<=900000000):=by show V.length<=_;omega
    have b3:Hid ((aB V).n=V.length):=rfl;clear bo bj x3
    go_region_law (refine bH w3 rfl (.tmp 36) (.tmp 40) 61 rfl iS (.string ⟨#[]⟩) 16 u (aB V) [.string x] underlying61 cu be a6 a5 rfl Rc (by rw[b3.out];simp[Act.eval]) cs b4.out (by omega) (by simp[Act.eval]) rfl (by simp[Value.oneCell']) ?_;intro az R w5 ar a1;have c5:=a1.kept.get F.out.c (fun J=>by have:=F.out.fv _ (aN J);omega);have f5:=am c5 0;have d5:w5.cell? ⟨b.heap.size+1,0,none⟩=some (.slice u.ao V.length u.cap):=(by rw[aa c5];rfl);have z5:=ae c5)
    all_goals
     rw[dr]at ar;have d:=hI (F.out.addV (m:=(aB V).n+1) a1 ar (by simp[aB]));obtain⟨X5,bg⟩:∃X5,Hid (w5.setCell ⟨b.heap.size+1,0,none⟩ (.slice az ((aB V).n+1) R)=X5):=⟨_,rfl⟩
     rw[bg.out]at d ⊢;clear ar a1 c5 f5 d5 z5 p0 p1 p2 bg ch cX;have ck:=hI d.out.kept;obtain⟨gA,rfl,c7,b6⟩:=cm.sl (cm.Vb HA.out ck.out) k Z;have aS:=hI (cl.out (fQ A k) (jK A k Z));have ax:=HN.out (fQ A k) (jK A k Z);have cy:(k:Int)<(A.length:Int):=by omega
     generalize fQ A k=s at *;obtain⟨ca,p,C⟩:=s;obtain⟨K,N,es,-,-⟩:=aS.out.src 0 _ (mm C 0 ax);replace es:ca=some ⟨K,N,none⟩:=es;subst es;have cq:=aS.out.le;simp only at b6 ax cq O;have p0:X5.cell? ⟨b.heap.size+1,1,none⟩=some (.slice t.ao B.length t.cap):=by rw[aa d.out.c];rfl
     have p1:=am d.out.c 1;have p2:=ae d.out.c;have ba:=d.out.b;have b1:Hid ((lA B).n<=900000000):=by show B.length<=_;omega
     have bT:Hid ((lA B).n=B.length):=rfl;have cP:(1:Int)<=(C.length:Int):=by omega
     have cB:1<=C.length:=ax;have df:1<=p:=by omega
     have cz:(C.length:Int)<=(p:Int):=by omega
     by_cases bs:p=1
     ·subst bs
      have HT:Hid (pr b ⟨some ⟨K,N,none⟩,0,C.drop 1⟩):=by show pr b _;rw[Tz (by omega)];exact pr.none0 (fun e=>by cases e)
      have ai:Hid (([.slice (some ⟨K,N,none⟩) 0 0]:List Value)=Ff ⟨some ⟨K,N,none⟩,0,C.drop 1⟩):=by show _=_;unfold Ff;rw[Tz (by omega)];rfl
      go_upto_region 8 with fail
      go_region_law (refine bH X5 rfl (.tmp 44) (.tmp 50) 218 rfl iL (.slice none 0 0) 24 t (lA B) [.slice (some ⟨K,N,none⟩) 0 0] underlying218 br ac af ag rfl Rc (by rw[bT.out];simp[Act.eval]) ba b1.out (by omega) (by simp[Act.eval]) rfl (by simp[Value.oneCell']) ?_;intro aT P w6 E D;have U:=D.kept.get d.out.c (fun J=>by have:=d.out.fb _ (aN J);omega);have f6:=am U 1;have d6:w6.cell? ⟨b.heap.size+1,1,none⟩=some (.slice t.ao B.length t.cap):=(by rw[aa U];rfl);have z6:=ae U)
      all_goals
       rw[ai.out,qw]at E
       have a2:=(show Hid _ from d.out.addB (m:=(lA B).n+1) D E (fun s n=>by
        rcases Rr.1 n with h | h
        ·exact d.out.s s h
        ·rw[Q9.1 h];exact HT.out) (by simp[lA,kU]))
       have al:Hid ((B++[(⟨some ⟨K,N,none⟩,0,C.drop 1⟩:Sl)]).map (·.L)=gi w n M (k+1)):=by show _=_;rw[Ry];exact O.out
       clear E D U;go_wp2
       go_roundg (n.length-(k+1))
       case measure=>omega
       case rel=>exact⟨k+1,V++[x],⟨az,R⟩,B++[⟨some ⟨K,N,none⟩,0,C.drop 1⟩],⟨aT,P⟩,by omega,rfl,by go_num,⟨by simp;omega,by simp;omega⟩,Y,al,a2⟩
     ·have HT:=hI (pr.tail aS.out)
      have ai:Hid (C.length-1=(C.drop 1).length):=by show _=_;simp
      go_upto_region 8 with fail
      go_region_law (refine bH X5 rfl (.tmp 44) (.tmp 50) 218 rfl iL (.slice none 0 0) 24 t (lA B) [.slice (some ⟨K,N+1,none⟩) (C.length-1) (p-1)] underlying218 br ac af ag rfl Rc (by rw[bT.out];simp[Act.eval]) ba b1.out (by omega) (by simp[Act.eval]) rfl (by simp[Value.oneCell']) ?_;intro aT P w6 E D;have U:=D.kept.get d.out.c (fun J=>by have:=d.out.fb _ (aN J);omega);have f6:=am U 1;have d6:w6.cell? ⟨b.heap.size+1,1,none⟩=some (.slice t.ao B.length t.cap):=(by rw[aa U];rfl);have z6:=ae U)
      all_goals
       rw[ai.out,show([.slice (some ⟨K,N+1,none⟩) (C.drop 1).length (p-1)]:List Value)=Ff ⟨some ⟨K,N+1,none⟩,p-1,C.drop 1⟩ from rfl,qw]at E
       have a2:=(show Hid _ from d.out.addB (m:=(lA B).n+1) D E (fun s n=>by
        rcases Rr.1 n with h | h
        ·exact d.out.s s h
        ·rw[Q9.1 h];exact HT.out) (by simp[lA,kU]))
       have al:Hid ((B++[(⟨some ⟨K,N+1,none⟩,p-1,C.drop 1⟩:Sl)]).map (·.L)=gi w n M (k+1)):=by show _=_;rw[Ry];exact O.out
       clear E D U;go_wp2
       go_roundg (n.length-(k+1))
       case measure=>omega
       case rel=>exact⟨k+1,V++[x],⟨az,R⟩,B++[⟨some ⟨K,N+1,none⟩,p-1,C.drop 1⟩],⟨aT,P⟩,by omega,rfl,by go_num,⟨by simp;omega,by simp;omega⟩,Y,al,a2⟩
  ·have e:k=n.length:=by omega
   subst e;have cp:¬(n.length:Int)<(n.length:Int):=by omega
   have r0:wr.cell? ⟨b.heap.size,0,none⟩=some (.slice none 0 0):=by rw[aa z.out.r];rfl
   have r1:wr.cell? ⟨b.heap.size,1,none⟩=some (.slice none 0 0):=by rw[aa z.out.r];rfl
   have r2:=am z.out.r 0;have r3:=am z.out.r 1;have c0:wr.cell? ⟨b.heap.size+1,0,none⟩=some (.slice u.ao V.length u.cap):=by rw[aa z.out.c];rfl
   have c1:wr.cell? ⟨b.heap.size+1,1,none⟩=some (.slice t.ao B.length t.cap):=by rw[aa z.out.c];rfl
   have c3:=ae z.out.c;have cV:=ae z.out.r;have bz:Hid (∀q,u.blk=some q->q≠b.heap.size):=fun q J=>by have:=z.out.fv q J;omega
   have bx:Hid (∀q,t.blk=some q->q≠b.heap.size):=fun q J=>by have:=z.out.fb q J;omega
   have bd:Hid (gK l w n n.length=V):=HV.out.symm;go_wp2;obtain⟨x0,x1⟩:=J2 z.out.r (.slice u.ao V.length u.cap) (.slice t.ao B.length t.cap);have kf:ab [] b ((wr.setCell ⟨b.heap.size,0,none⟩ (.slice u.ao V.length u.cap)).setCell ⟨b.heap.size,1,none⟩ (.slice t.ao B.length t.cap)):=(W.out.setCell (QV (by simp)) _).setCell (QV (by simp)) _;exact QY (v:=.agg #[.slice u.ao V.length u.cap,.slice t.ao B.length t.cap]) (by simp[results,results177,go_sem,x0,x1]) rfl ⟨u,t,B,by rw[bd.out],HB.out,z.out.s,by rw[bd.out];exact⟨(z.out.v.Vk bz.out _ _).Vk bz.out _ _,fun q J=>(by have:=z.out.fv q J;omega),kf⟩,⟨(z.out.b.Vk bx.out _ _).Vk bx.out _ _,fun q J=>(by have:=z.out.fb q J;omega),kf⟩⟩
def fO(T:List Tk)(S:List Sm)(hs:List Nat)(k:Nat):List ByteArray:=((hs.take k).filter (fun j=>((au S j).k.toList == [36,102]))).map (fun j=>tS T ((au S j).h+1))
def CJ(p:ByteArray×ByteArray):List Value:=[.string p.1,.string p.2]
theorem LY(p:ByteArray×ByteArray):(CJ p).length=2:=rfl
def lz(L:Fs):dN:=kU 114 2 CJ L
theorem CS(L:Fs)(x:ByteArray×ByteArray):(⟨(lz L).e,(lz L).size,(lz L).n+1,(lz L).xs++CJ x⟩:dN)=lz (L++[x]):=gM _ _ _ _ _
def jY(T:List Tk)(S:List Sm)(a:Nat)(V:List ByteArray)(i m:Nat):Fs:=((List.range m).filter (fun j=>decide (i<j)&&hQ T S (V.getD i ⟨#[]⟩) (V.getD j ⟨#[]⟩) a)).map (fun j=>(V.getD i ⟨#[]⟩,V.getD j ⟨#[]⟩))
def lg(T:List Tk)(S:List Sm)(a:Nat)(V:List ByteArray)(k:Nat):Fs:=(List.range k).flatMap (fun i=>jY T S a V i V.length)
def fH(T:List Tk)(S:List Sm)(a:Nat):Fs:=lg T S a (fO T S (bW T S a) (bW T S a).length) (fO T S (bW T S a) (bW T S a).length).length
theorem CG(h:z2<f):jY l w T d z2 (f+1)=jY l w T d z2 f++(if hQ l w (d.getD z2 ⟨#[]⟩) (d.getD f ⟨#[]⟩) T=true then [(d.getD z2 ⟨#[]⟩,d.getD f ⟨#[]⟩)] else []):=by
 unfold jY;rw[gZ,Ry,SM h,Sv]
 split <;> rfl
theorem CH:jY l w T d f (f+1)=[]:=by
 unfold jY;rw[Th.2 (fun j a=>by have:=Ra.1 a;simp;omega)];rfl
theorem wO:lg l w T d (f+1)=lg l w T d f++jY l w T d f d.length:=by
 unfold lg;rw[R6,Sh];simp
theorem EY:(jY l w T d z2 f).length<=f:=by
 unfold jY;rw[Ri];have:=Sc (fun j=>decide (z2<j)&&hQ l w (d.getD z2 ⟨#[]⟩) (d.getD j ⟨#[]⟩) T) (List.range f);rw[Tf]at this;exact this
theorem ED(h:f<n.length):fO l w n (f+1)=fO l w n f++(if((au w n[f]).k.toList == [36,102])=true then [tS l ((au w n[f]).h+1)] else []):=by
 unfold fO;rw[RG h,RV,Ry]
 congr 1
 cases a:((au w n[f]).k.toList == [36,102])
 ·rw[Ss (by rw[a];simp)];rfl
 ·rw[SG (p:=fun j=>((au w j).k.toList == [36,102])) a];rfl
theorem NA:(prog.info? 114).map (fun i=>(i.zero,i.size,i.bytes))=some (some (.agg #[.string ⟨#[]⟩,.string ⟨#[]⟩]),2,32):=by kernel_rfl
theorem wI(hD:fz S I l o a w z4 T)(ok:nK l w y)(hn:y<w.length)(hE:cU l (au w y).h) :
  Calls prog 64 #[.pointer (some ⟨I,0,none⟩),.int .i64 y] S fun e b=>∃F,e=.returned (.slice F.ao (fH l w y).length F.cap)/\gw S b F (lz (fH l w y)):=by
 have HD:=hI hD;have bd:=hI ok;have cV:=ok.sm;have cF:=ok.tm;have a0:=hI (nP I y l o a w z4 T S hD ok hn hE);have cL:=kj l w y;have cs:=hI (sK l w y);have cf:Hid (fH l w y=lg l w y (fO l w (bW l w y) (bW l w y).length) (fO l w (bW l w y) (bW l w y).length).length):=rfl;obtain⟨iS,cy,bj,a5,a4⟩:=Re js;obtain⟨iP,cc,bw,a2,bo⟩:=Re NA;clear hD ok;generalize bW l w y=c at *;go_enter func64,ntmps64
 go_upto_region 3 with (go_at_call 62;refine QU a0.out ?_;rintro e B ⟨h1,rfl,x1⟩)
 have br:=hI x1.kept;have b4:=hI x1.own.srcN;have cz:Hid (gw B B ⟨none,0⟩ (aB [])):=⟨QZ _ _ _ _,(by intro k hk;cases hk),ab.refl _ _⟩;clear x1 a0;obtain⟨a1,c1⟩:=h1;have cx:Hid (([]:List ByteArray)=fO l w c 0):=by show _=_;simp[fO]
 go_wp2
 go_loopg [5,7] c.length (fun g bk i wr=>∃(k:Nat) (F:Hd) (V:List ByteArray),k<=c.length/\g=c.length-k/\bk=.slice F.ao V.length F.cap/\i=.int .i64 k/\V.length<=k/\Hid (V=fO l w c k)/\Hid (gw B wr F (aB V)))
 case atStart=>exact⟨0,⟨none,0⟩,[],by omega,rfl,rfl,rfl,by simp,cx,cz⟩
 case round =>
  obtain⟨k,F,V,hk,hg,rfl,rfl,c3,HV,U⟩:=hrel;have al:=hI (br.out.trans U.out.kept)
  by_cases ai:k<c.length
  ·have c7:(k:Int)<(c.length:Int):=by omega
   have co:=cs.out c[k] (Rb ai);have ag:c[k]<w.length:=by omega
   obtain⟨gH,eH,cl,cH⟩:=b4.out k c[k] (QP ai);replace eH:a1=some ⟨gH,0,none⟩:=eH;subst eH;have ar:=hI (fz.Vb HD.out br.out);obtain⟨t0,s0,hb⟩:=ar.out.cells;obtain⟨J,rfl,b0,-,-,q2,q3⟩:=ar.out.s.2 c[k] w[c[k]] (QP ag);have C:=hI (ED l w c k ai);rw[<-HV.out,<-bM w c[k] ag]at C;have ca:Hid ((w[c[k]].k.toList == [36,102])=true->w[c[k]].h+1<l.length):=fun h=>by have:=bd.out.f c[k] co;rw[<-bM w c[k] ag]at this;exact this h
   have cP:((c[k]:Nat):Int)<(w.length:Int):=by omega
   have db:(0:Int)<=((c[k]:Nat):Int):=by omega
   generalize w[c[k]].k=sk at *;generalize w[c[k]].h=z at *;generalize c[k]=j at *
   have ac:Hid (∀b:World,B.heap.size<=b.heap.size->(∀q,q<B.heap.size->b.heap[q]?=B.heap[q]?)->(b.cell? ⟨I,0,none⟩=some (.slice o l.length a)/\b.cell? ⟨I,1,none⟩=some (.slice (some ⟨J,0,none⟩) w.length T)/\b.cell? ⟨gH,k,none⟩=some (.int .i64 (j:Int))/\b.cell? ⟨J,j*4+2,none⟩=some (.int .i64 (z:Int))/\b.cell? ⟨J,j*4+3,none⟩=some (.string sk))/\I<b.heap.size/\J<b.heap.size/\gH<b.heap.size):=fun b hz d =>
    ⟨⟨by rw[Q6 (d I hb)];exact t0,by rw[Q6 (d I hb)];exact s0,by rw[Q6 (d gH cl)];exact cH,by rw[Q6 (d J b0)];exact q2,by rw[Q6 (d J b0)];exact q3⟩,by omega,by omega,by omega⟩
   clear t0 s0 q2 q3 cH;have b5:Hid (∀q,q<B.heap.size->wr.heap[q]?=B.heap[q]?):=fun q d=>U.out.kept.block q d (by simp)
   obtain⟨⟨t0,s0,cH,q2,q3⟩,a3,O,N⟩:=ac.out wr U.out.kept.size b5.out
   cases h1:(sk.toList == [36,102])
   ·have E:Hid (V=fO l w c (k+1)):=by have:=C.out;rw[h1,QT (by simp),Rl]at this;exact this.symm
    go_upto_region 6 with fail
    go_quiet (fail)
    have r:=hI (U.out.Vb ((ab.refl [] wr).drewN nq));go_wp2
    go_roundg (c.length-(k+1))
    case measure=>omega
    case rel=>exact⟨k+1,F,V,by omega,rfl,rfl,by go_num,by omega,E,r⟩
   ·have E:Hid (V++[tS l (z+1)]=fO l w c (k+1)):=by have:=C.out;rw[h1,QW rfl]at this;exact this.symm
    have cb:=ca.out h1;obtain⟨R,rfl,bv,u0,-⟩:=ar.out.t.2 (z+1) _ (iw l (z+1) cb);replace u0:B.cell? ⟨R,(z+1)*5,none⟩=some (.string (tS l (z+1))):=u0;generalize tS l (z+1)=v at *;have be:Hid (∀b:World,(∀q,q<B.heap.size->b.heap[q]?=B.heap[q]?)->b.cell? ⟨R,(z+1)*5,none⟩=some (.string v)):=fun b d=>by rw[Q6 (d R bv)];exact u0
    have c6:(z:Int)+1<(l.length:Int):=by omega
    have cE:IntKind.i64.wrap ((z:Int)+1)=(z:Int)+1:=by rw[R9];omega
    have cR:((z:Int)+1).toNat=z+1:=by omega
    have c4:(0:Int)<=(z:Int)+1:=by omega
    go_upto_region 6 with fail
    go_quiet (fail)
    go_upto_region 7 with fail
    obtain⟨K,a6⟩:∃K,Hid (wr.drewN nq=K):=⟨_,rfl⟩
    rw[a6.out];have k2:ab [] wr K:=by rw[<-a6.out];exact(ab.refl [] wr).drewN nq
    have r:=hI (U.out.Vb k2);have W:Hid (∀q,q<B.heap.size->K.heap[q]?=B.heap[q]?):=fun q d=>r.out.kept.block q d (by simp)
    clear t0 s0 cH q2 q3 a3 O N u0;obtain⟨⟨t0,s0,cH,q2,-⟩,a3,O,N⟩:=ac.out K r.out.kept.size W.out;have u0:=be.out K W.out;have cA:R<K.heap.size:=QX bv r.out.kept.size;have ax:=r.out.own;have b6:Hid ((aB V).n<=900000000):=by show V.length<=_;omega
    have HS:Hid (∀(A:World) (h5:Hd),bt K A F h5->(A.cell? ⟨I,0,none⟩=some (.slice (some ⟨R,0,none⟩) l.length a)/\A.cell? ⟨I,1,none⟩=some (.slice (some ⟨J,0,none⟩) w.length T)/\A.cell? ⟨gH,k,none⟩=some (.int .i64 (j:Int))/\A.cell? ⟨J,j*4+2,none⟩=some (.int .i64 (z:Int))/\A.cell? ⟨R,(z+1)*5,none⟩=some (.string v))):=fun A h5 gr=>by
     have bs:∀q,q<B.heap.size->A.heap[q]?=B.heap[q]?:=fun q d=>by
      rw[gr.kept.block q (QX d r.out.kept.size) (fun hm=>by have:=U.out.far q (aN hm);omega)];exact W.out q d
     obtain⟨⟨y0,y1,y2,y3,-⟩,-⟩:=ac.out A (Q3 r.out.kept.size gr.kept.size) bs;exact⟨y0,y1,y2,y3,be.out A bs⟩
    clear k2
    go_region_held3 (fun b=>b.cell? ⟨I,0,none⟩=some (.slice (some ⟨R,0,none⟩) l.length a)/\b.cell? ⟨I,1,none⟩=some (.slice (some ⟨J,0,none⟩) w.length T)/\b.cell? ⟨gH,k,none⟩=some (.int .i64 (j:Int))/\b.cell? ⟨J,j*4+2,none⟩=some (.int .i64 (z:Int))/\b.cell? ⟨R,(z+1)*5,none⟩=some (.string v)) (go_keep) ((refine bH K (by rfl) (.tmp 33) (.tmp 53) 61 (by rfl) iS (.string ⟨#[]⟩) 16 F (aB V) [.string v] underlying61 cy bj a5 a4 rfl Rc (by simp[Act.eval] <;> rfl) ax b6.out (by omega) (by simp[Act.eval]) rfl (by simp[Value.oneCell']) ?_;intro cp bz A af an;obtain⟨y0,y1,y2,y3,y4⟩:=HS.out A _ an))
    rw[dr]at af;have aT:=hI (r.out.Vl an af);clear af an;go_wp2
    go_roundg (c.length-(k+1))
    case measure=>omega
    case rel=>exact⟨k+1,⟨cp,bz⟩,V++[v],by omega,rfl,by simp[aB],by go_num,by simp;omega,E,aT⟩
  ·have e:k=c.length:=by omega
   subst e;have b2:Hid (fH l w y=lg l w y V V.length):=by show _=_;rw[cf.out,HV.out]
   have Y:=hI U.out.own.srcX;have bT:Hid (gw wr wr ⟨none,0⟩ (lz [])):=⟨QZ _ _ _ _,(by intro k hk;cases hk),ab.refl _ _⟩;have ch:Hid (([]:Fs)=lg l w y V 0):=by show _=_;simp[lg]
   obtain⟨va,vc⟩:=F;obtain⟨P,az⟩:∃P,Hid (wr=P):=⟨_,rfl⟩
   rw[az.out];rw[az.out]at Y bT al;clear HV U az;go_wp2
   go_loopg [8,9] V.length (fun g bk i w3=>∃(m:Nat) (h2:Hd) (L:Fs),m<=V.length/\g=V.length-m/\bk=.slice h2.ao L.length h2.cap/\i=.int .i64 m/\L.length<=10000*m/\Hid (L=lg l w y V m)/\Hid (gw P w3 h2 (lz L)))
   case atStart=>exact⟨0,⟨none,0⟩,[],by omega,rfl,rfl,rfl,by simp,ch,bT⟩
   case round =>
    obtain⟨m,h2,L,hm,c9,rfl,rfl,hL,HL,bl⟩:=hrel
    by_cases ba:m<V.length
    ·have c2:(m:Int)<(V.length:Int):=by omega
     have b1:Hid (L=lg l w y V m++jY l w y V m (m+1)):=by show _=_;rw[CH,Rl];exact HL.out
     obtain⟨H,eV,bg,ct⟩:=Y.out m _ (mm V m ba);replace eV:va=some ⟨H,0,none⟩:=eV;subst eV;go_wp2
     go_loopg [8,10] (V.length-(m+1)) (fun g bk i w3=>∃(q:Nat) (Q:Hd) (D:Fs),(m<q/\q<=V.length)/\g=V.length-q/\bk=.slice Q.ao D.length Q.cap/\i=.int .i64 q/\D.length<=10000*m+q/\Hid (D=lg l w y V m++jY l w y V m q)/\Hid (gw P w3 Q (lz D)))
     case atStart=>exact⟨m+1,h2,L,⟨by omega,by omega⟩,rfl,rfl,by go_num,by omega,b1,bl⟩
     case round =>
      obtain⟨q,Q,D,⟨b3,c5⟩,cX,rfl,rfl,cB,ad,G⟩:=hrel
      by_cases bp:q<V.length
      ·have c0:(q:Int)<(V.length:Int):=by omega
       obtain⟨c8,ck,-,bf⟩:=Y.out q _ (mm V q bp)
       cases ck
       have C:=hI (CG l w y V m q b3);have bx:Hid (∀wx,ab [] P wx->Calls prog 94 #[.pointer (some ⟨I,0,none⟩),.string (V.getD m ⟨#[]⟩),.string (V.getD q ⟨#[]⟩),.int .i64 y] wx fun e b=>e=.returned (.bool (hQ l w (V.getD m ⟨#[]⟩) (V.getD q ⟨#[]⟩) y))/\ab [] wx b):=fun wx kx=>vI I y _ _ l o a w z4 T wx (fz.Vb HD.out (al.out.trans kx)) bd.out
       have aS:Hid (∀b:World,P.heap.size<=b.heap.size->(∀q,q<P.heap.size->b.heap[q]?=P.heap[q]?)->b.cell? ⟨H,m,none⟩=some (.string (V.getD m ⟨#[]⟩))/\b.cell? ⟨H,q,none⟩=some (.string (V.getD q ⟨#[]⟩))/\H<b.heap.size):=fun b hz d=>⟨by rw[Q6 (d H bg)];exact ct,by rw[Q6 (d H bg)];exact bf,by omega⟩
       generalize V.getD m ⟨#[]⟩=x at *;generalize V.getD q ⟨#[]⟩=M at *;obtain⟨ap,cj⟩:∃ap,Hid (hQ l w x M y=ap):=⟨_,rfl⟩
       rw[cj.out]at bx C;clear bf;obtain⟨v0,v1,bc⟩:=aS.out wr G.out.kept.size (fun q d=>G.out.kept.block q d (by simp))
       go_upto_region 15 with fail
       go_region_with (go_at_call 94;refine(bx.out _ (by exact G.out.kept.drew)).mono ?_;rintro e A ⟨rfl,k5⟩)
       all_goals
        have k6:ab [] wr A:=((ab.refl [] wr).drew).trans k5;have n:=hI (G.out.Vb k6);clear k5 k6 v0 v1 bc
        cases ap
        ·have E:Hid (D=lg l w y V m++jY l w y V m (q+1)):=by show _=_;rw[C.out,QT (by simp),Rl];exact ad.out
         go_wp2
         go_roundg (V.length-(q+1))
         case measure=>omega
         case rel=>exact⟨q+1,Q,D,⟨by omega,by omega⟩,rfl,rfl,by go_num,by omega,E,n⟩
        ·have E:Hid (D++[(x,M)]=lg l w y V m++jY l w y V m (q+1)):=by show _=_;rw[C.out,QW rfl,ad.out,Sy]
         go_upto_region 17 with fail
         obtain⟨v0,v1,bc⟩:=aS.out A n.out.kept.size (fun q d=>n.out.kept.block q d (by simp));have ax:=n.out.own;have cu:Hid ((lz D).n<=900000000):=by show D.length<=_;omega
         have s3:Hid (∀u∈([.string x,.string M]:List Value),u.oneCell'=true):=by intro u hu;simp only[List.mem_cons,List.not_mem_nil,or_false]at hu;rcases hu with rfl | rfl <;> rfl
         have HS:Hid (∀(w6:World) (h6:Hd),bt A w6 Q h6->w6.cell? ⟨H,m,none⟩=some (.string x)/\w6.cell? ⟨H,q,none⟩=some (.string M)):=fun w6 h6 gr=>by
          obtain⟨y0,y1,-⟩:=aS.out w6 (Q3 n.out.kept.size gr.kept.size) (fun p hp=>by
           rw[gr.kept.block p (QX hp n.out.kept.size) (fun hm=>by have:=n.out.far p (aN hm);omega)];exact n.out.kept.block p hp (by simp))
          exact⟨y0,y1⟩
         go_region_held3 (fun b=>b.cell? ⟨H,m,none⟩=some (.string x)/\b.cell? ⟨H,q,none⟩=some (.string M)) (go_keep) ((refine bH A (by rfl) (.tmp 81) (.tmp 91) 111 (by rfl) iP (.agg #[.string ⟨#[]⟩,.string ⟨#[]⟩]) 32 Q (lz D) [.string x,.string M] underlying111 cc bw a2 bo rfl Uq (by simp[Act.eval] <;> rfl) ax cu.out (by omega) (by simp[Act.eval]) rfl s3.out ?_;intro cq a7 w6 Z X;obtain⟨y0,y1⟩:=HS.out w6 _ X))
         rw[show([.string x,.string M]:List Value)=CJ (x,M) from rfl,CS]at Z;have aT:=hI (n.out.Vl X Z);clear Z X;go_wp2
         go_roundg (V.length-(q+1))
         case measure=>omega
         case rel=>exact⟨q+1,⟨cq,a7⟩,D++[(x,M)],⟨by omega,by omega⟩,rfl,by simp[lz,kU],by go_num,by simp;omega,E,aT⟩
      ·have eq:q=V.length:=by omega
       subst eq;have E:Hid (D=lg l w y V (m+1)):=by show _=_;rw[wO];exact ad.out
       go_wp2
       go_roundg (V.length-(m+1))
       case measure=>omega
       case rel=>exact⟨m+1,Q,D,by omega,rfl,rfl,by go_num,by omega,E,G⟩
    ·have e:m=V.length:=by omega
     subst e;have E:Hid (fH l w y=L):=by show _=_;rw[b2.out,HL.out]
     go_wp2;go_ret;exact⟨h2,by rw[E.out];rfl,by rw[E.out];exact bl.out.base al.out⟩
end Go.Proofs.YtpddjjabfbfifaaGreat
