import Derived.BigQuiet
import Derived.Deep.RegionLaw
import Derived.Test.YtpddjjabfbfifaaGreatG14
namespace Go.Proofs.YtpddjjabfbfifaaGreat
open Go.RowKit Tryz
set_option maxRecDepth 100000
set_option maxHeartbeats 40000000
variable{L:List dj}{v:Nat}{k zt:World}{y5:Option Addr}{z7:Nat->Int}{D:List ByteArray}{y6:Hd}{y7:ByteArray}(zb x:Nat)(i H:List ByteArray)(y8:Option Addr)(I y:Nat)(l:List Tk)(b:List dj)(o:Option Addr)(a:Nat)(w:List Sm)(z4:Option Addr)(M:Int)(N:ByteArray)(g z0:Int)(T:Nat)(S:World)(n:List Nat)(z3:Option Addr)(d:List ByteArray)(z2 f:Nat)
def Ql:dj:=⟨0,0,0,⟨#[]⟩,0,0⟩
def bO(P:List dj)(i:Nat):dj:=P.getD i Ql
theorem GO(h:f<b.length):b[f]?=some (bO b f):=by
 unfold bO;rw[QQ,QP h];rfl
def xJ(P:List dj)(i:Nat):Bool:=((bO P i).ref == -1)
def ic(P:List dj):Int:=match (List.range P.length).find? (xJ P) with
 | some i=>i
 | none=>-1
theorem Iv(a:v<L.length)(h:xJ L v=true)(c:∀j,j<v->xJ L j=false):ic L=v:=by
 have e:(List.range L.length).find? (xJ L)=some v:=by
  rw[Sj];exact⟨h,Ra.2 a,fun j b=>by rw[c j b];rfl⟩
 unfold ic;rw[e]
theorem Ln(b:∀j,j<L.length->xJ L j=false):ic L=-1:=by
 have e:(List.range L.length).find? (xJ L)=none:=by
  rw[Sk];intro j a;rw[b j (Ra.1 a)];simp
 unfold ic;rw[e]
theorem Ei:(ic b=-1/\∀j,j<b.length->(bO b j).ref≠-1)∨∃k,k<b.length/\ic b=(k:Int):=by
 unfold ic
 cases h:(List.range b.length).find? (xJ b) with
 | none =>
  refine Q1 ⟨rfl,fun j a e=>?_⟩;rw[Sk]at h;exact h j (Ra.2 a) (by unfold xJ;rw[e];rfl)
 | some i=>exact QV ⟨i,Ra.1 (Rz h),rfl⟩
theorem cm.step(h:cm k y5 6 kV L)(a:Nat)(b:a<L.length):∃g,y5=some ⟨g,0,none⟩/\g<k.heap.size/\k.cell? ⟨g,a*6,none⟩=some (.int .i64 (bO L a).ref)/\k.cell? ⟨g,a*6+1,none⟩=some (.int .i64 ((bO L a).back:Nat))/\k.cell? ⟨g,a*6+2,none⟩=some (.int .i64 ((bO L a).need:Nat)) /\
  k.cell? ⟨g,a*6+3,none⟩=some (.string (bO L a).file)/\k.cell? ⟨g,a*6+4,none⟩=some (.int .i64 (bO L a).line)/\k.cell? ⟨g,a*6+5,none⟩=some (.int .i64 (bO L a).col):=by
 obtain⟨g,e,d,c⟩:=h a _ (GO L a b);exact⟨g,e,d,c 0 _ rfl,c 1 _ rfl,c 2 _ rfl,c 3 _ rfl,c 4 _ rfl,c 5 _ rfl⟩
theorem Is(t:cm S o 6 kV b)(y:b.length<=100000000) :
  Calls prog 130 #[.agg #[.slice o b.length a,.int .i64 M,.string N,.int .i64 g,.int .i64 z0]] S fun e x=>e=.returned (.int .i64 (ic b))/\ab [] S x:=by
 obtain⟨W,m⟩:∃W,Hid (S.alloc (.cells #[.slice o b.length a,.int .i64 M,.string N,.int .i64 g,.int .i64 z0] 122)=W):=⟨_,rfl⟩
 have n:W.heap[S.heap.size]?=some (.cells #[.slice o b.length a,.int .i64 M,.string N,.int .i64 g,.int .i64 z0] 122 (0,0)):=by rw[<-m.out];exact QS _ _
 have c:Hid (ab [] S W):=by show ab [] S W;rw[<-m.out];exact(ab.refl [] _).alloc _
 have u:=hI (t.Vb c.out);have A:W.cell? ⟨S.heap.size,0,none⟩=some (.slice o b.length a):=by rw[aa n];rfl
 have B:=ae n;clear t;go_enter func130,ntmps130
 go_upto_region 1 with fail
 rw[m.out];go_wp2
 go_loopg [3] b.length (fun q i wr=>∃k:Nat,k<=b.length/\q=b.length-k/\i=.int .i64 k/\Hid (∀j,j<k->xJ b j=false)/\wr=W)
 case atStart=>exact⟨0,by omega,rfl,rfl,(fun j v=>by omega),rfl⟩
 case round =>
  obtain⟨k,z,D,rfl,l,rfl⟩:=hrel
  by_cases f:k<b.length
  ·have h:(k:Int)<(b.length:Int):=by omega
   obtain⟨q,rfl,w,C,-⟩:=cm.step u.out k f;have s:Hid (xJ b k=((bO b k).ref == -1)):=rfl;generalize (bO b k).ref=r at *
   cases p:(r == -1)
   ·have d:=hI (dU l.out (by rw[s.out,p]))
    go_wp2
    go_roundg (b.length-(k+1))
    case measure=>omega
    case rel=>exact⟨k+1,by omega,rfl,by go_num,d,rfl⟩
   ·have d:Hid (ic b=k):=Iv f (by rw[s.out,p]) l.out
    go_wp2;go_ret;exact⟨QN d.out.symm,c.out⟩
  ·have d:Hid (ic b=-1):=Ln (fun j v=>l.out j (by omega))
   have h:¬(k:Int)<(b.length:Int):=by omega
   go_wp2;go_ret;exact⟨QN d.out.symm,c.out⟩
def qI(rec:Nat->Int):Nat->Nat->Int
 | 0,b=>b
 | k+1,b=>if b=0 then -1 else if rec (b-1)<0 then -1 else qI rec k (rec (b-1)).toNat
def zH(P:List dj):Nat->Nat->Int
 | 0,_=>0
 | f+1,i=>qI (zH P f) (bO P i).need i
theorem Ng(a:∀i,z7 i<=(i:Int))(k:Nat):∀b,qI z7 k b<=(b:Int):=by
 induction k with
 | zero=>intro b;exact TJ _
 | succ k c =>
  intro b;rw[qI]
  split
  ·omega
  ·split
   ·omega
   ·have d:=c (z7 (b-1)).toNat
    have e:=a (b-1);omega
theorem zI(f:Nat):∀i,zH b f i<=(i:Int):=by
 induction f with
 | zero=>intro i;show(0:Int)<=i;omega
 | succ f a=>intro i;rw[zH];exact Ng a _ _
theorem vJ{c:Nat->Int}(e:∀i,z7 i<=(i:Int))(k:Nat):∀b,(∀i,i<b->z7 i=c i)->qI z7 k b=qI c k b:=by
 induction k with
 | zero=>intro b _;rfl
 | succ k d =>
  intro b h;rw[qI,qI]
  by_cases a:b=0
  ·rw[QW a,QW a]
  ·rw[QT a,QT a,<-h (b-1) (by omega)]
   split
   ·rfl
   ·next g =>
    have:=e (b-1);exact d _ (fun i f=>h i (by omega))
theorem Ha:∀f g i,i<f->i<g->zH b f i=zH b g i:=by
 intro f
 induction f with
 | zero=>intro g i h;omega
 | succ f a =>
  intro g i d e
  cases g with
  | zero=>omega
  | succ g =>
   rw[zH,zH];exact vJ (zI b f) _ _ (fun j c=>a g j (by omega) (by omega))
def dS(P:List dj)(i:Nat):Int:=zH P (i+1) i
theorem vM:dS b f=qI (dS b) (bO b f).need f:=by
 unfold dS;rw[zH];exact vJ (zI b f) _ _ (fun j a=>Ha b f (j+1) j a (by omega))
theorem vN:dS b f<=(f:Int):=zI b _ f
def M0(P:List dj):Prop:=∀i,(bO P i).need<=100000
theorem tJ(hl:b.length<=100000000)(O:M0 b)(f:Nat):∀(i:Nat) (w:World),i<f->i<b.length->cm w o 6 kV b ->
  Calls prog 132 #[.agg #[.slice o b.length a,.int .i64 M,.string N,.int .i64 g,.int .i64 z0],.int .i64 i] w fun e T=>e=.returned (.int .i64 (dS b i))/\ab [] w T:=by
 induction f with
 | zero=>intro i w h;omega
 | succ f G =>
  intro i w K hi I;have B:=hI G;clear G;obtain⟨W,D⟩:∃W,Hid (w.alloc (.cells #[.slice o b.length a,.int .i64 M,.string N,.int .i64 g,.int .i64 z0] 122)=W):=⟨_,rfl⟩
  have x:W.heap[w.heap.size]?=some (.cells #[.slice o b.length a,.int .i64 M,.string N,.int .i64 g,.int .i64 z0] 122 (0,0)):=by rw[<-D.out];exact QS _ _
  have l:Hid (ab [] w W):=by show ab [] w W;rw[<-D.out];exact(ab.refl [] _).alloc _
  have E:=hI (I.Vb l.out);have p0:W.cell? ⟨w.heap.size,0,none⟩=some (.slice o b.length a):=by rw[aa x];rfl
  have hz:=ae x;have ac:(i:Int)<(b.length:Int):=by omega
  obtain⟨U,rfl,A,-,-,Z,-⟩:=cm.step E.out i hi;have HB:=hI x;have y:=hI (vM b i);have L:=O i;generalize (bO b i).need=n at *;generalize dS b i=R at *;clear I x;go_enter func132,ntmps132
  go_upto_region 1 with fail
  rw[D.out];go_wp2;clear Z A
  go_loopg [6,7] n (fun m Y V wr=>∃(k v:Nat),k<=n/\m=n-k/\Y=.int .i64 v/\V=.int .i64 k/\v<=i/\Hid (R=qI (dS b) (n-k) v)/\Hid (ab [] W wr))
  case atStart=>exact⟨0,i,by omega,rfl,rfl,rfl,by omega,y,ab.refl _ _⟩
  case round =>
   obtain⟨k,v,hk,hm,rfl,rfl,hb,c,t⟩:=hrel
   by_cases Q:k<n
   ·have J:(k:Int)<(n:Int):=by omega
    obtain⟨d,P⟩:∃d,n-k=d+1:=⟨n-k-1,by omega⟩
    have C:n-(k+1)=d:=by omega
    rw[P,qI]at c;have j:=hI (l.out.trans t.out)
    cases v with
    | zero =>
     rw[QW rfl]at c;go_wp2;go_ret;exact⟨QN c.out.symm,j.out⟩
    | succ q =>
     rw[QT (by omega),SD]at c;have s:=t.out.get HB.out (by simp);have r0:wr.cell? ⟨w.heap.size,0,none⟩=some (.slice (some ⟨U,0,none⟩) b.length a):=by rw[aa s];rfl
     have r1:wr.cell? ⟨w.heap.size,1,none⟩=some (.int .i64 M):=by rw[aa s];rfl
     have r2:wr.cell? ⟨w.heap.size,2,none⟩=some (.string N):=by rw[aa s];rfl
     have r3:wr.cell? ⟨w.heap.size,3,none⟩=some (.int .i64 g):=by rw[aa s];rfl
     have r4:wr.cell? ⟨w.heap.size,4,none⟩=some (.int .i64 z0):=by rw[aa s];rfl
     have ad:=ae s;have F:=hI (B.out q wr (by omega) (by omega) (cm.Vb E.out t.out));have S:=vN b q;have X:((q:Int)+1==0)=false:=by simp;omega
     generalize dS b q=r at *
     by_cases H:r<0
     ·rw[QW H]at c
      go_wp2_with (go_at_call 132;refine QU F.out ?_;rintro e w1 ⟨rfl,u⟩;have p:=hI (j.out.trans u);clear u);go_ret;exact⟨QN c.out.symm,p.out⟩
     ·rw[QT H]at c
      obtain⟨z,rfl⟩:∃z:Nat,r=z:=⟨r.toNat,by omega⟩
      rw[Sa,<-C]at c;go_wp2_with (go_at_call 132;refine QU F.out ?_;rintro e w1 ⟨rfl,u⟩;have p:=hI (t.out.trans u);clear u)
      go_roundg (n-(k+1))
      case measure=>omega
      case rel=>exact⟨k+1,z,by omega,rfl,rfl,by go_num,by omega,c,p⟩
   ·have e:k=n:=by omega
    subst e;rw[RY,qI]at c;have j:=hI (l.out.trans t.out);go_wp2;go_ret;exact⟨QN c.out.symm,j.out⟩
def Mr(A B:List ByteArray)(i:Nat):Bool:=((A.getD i ⟨#[]⟩).toList==(B.getD i ⟨#[]⟩).toList)
def oc(A B:List ByteArray):Bool:=(A.length==B.length)&&(List.range A.length).all (Mr A B)
theorem mm(h:f<d.length):d[f]?=some (d.getD f ⟨#[]⟩):=by
 rw[QQ,QP h];rfl
theorem C0(s:ge S y8 i)(w:ge S o H)(y:i.length<=1000000000) :
  Calls prog 133 #[.slice y8 i.length a,.slice o H.length T] S fun e C=>e=.returned (.bool (oc i H))/\ab [] S C:=by
 have G:=hI s;have E:=hI w;clear s w
 by_cases c:i.length=H.length
 ·have r:Hid (oc i H=(List.range i.length).all (Mr i H)):=by show _=_;unfold oc;rw[c];simp
  obtain⟨b,d⟩:∃b,Hid (i.length=b):=⟨_,rfl⟩
  have l:Hid (H.length=b):=by show _=_;rw[<-c];exact d.out
  rw[d.out,l.out];rw[d.out]at y r;clear c;go_enter func133,ntmps133;go_wp2
  go_loopg [5] b (fun g A wr=>∃k:Nat,k<=b/\g=b-k/\A=.int .i64 k/\Hid (∀j,j<k->Mr i H j=true)/\Hid (ab [] S wr))
  case atStart=>exact⟨0,by omega,rfl,rfl,(fun j q=>by omega),ab.refl _ _⟩
  case round =>
   obtain⟨k,I,N,rfl,t,n⟩:=hrel
   by_cases h:k<b
   ·have p:(k:Int)<(b:Int):=by omega
    obtain⟨M,rfl,F,L⟩:=(ge.Vb G.out n.out) k _ (mm i k (by rw[d.out];exact h));obtain⟨J,rfl,D,K⟩:=(ge.Vb E.out n.out) k _ (mm H k (by rw[l.out];exact h));have v:Hid (Mr i H k=((i.getD k ⟨#[]⟩).toList==(H.getD k ⟨#[]⟩).toList)):=rfl;generalize i.getD k ⟨#[]⟩=x at *;generalize H.getD k ⟨#[]⟩=z at *;have m:=hI n.out.drew
    cases u:(x.toList==z.toList)
    ·have f:Hid (oc i H=false):=by
      show _=_
      rw[r.out,Ue];exact⟨k,Ra.2 h,by rw[v.out,u];simp⟩
     go_upto_region 6 with fail
     go_region
     all_goals
      go_wp2;go_ret;exact⟨aD f.out.symm,m.out⟩
    ·have f:Hid (∀j,j<k+1->Mr i H j=true):=fun j q=>by
      by_cases e:j=k
      ·rw[e,v.out,u]
      ·exact t.out j (by omega)
     go_upto_region 6 with fail
     go_region
     all_goals
      go_wp2
      go_roundg (b-(k+1))
      case measure=>omega
      case rel=>exact⟨k+1,by omega,rfl,by go_num,f,m⟩
   ·have f:Hid (oc i H=true):=by
     show _=_
     rw[r.out,Sn];exact fun j q=>t.out j (by have:=Ra.1 q;omega)
    have p:¬(k:Int)<(b:Int):=by omega
    go_wp2;go_ret;exact⟨aD f.out.symm,n.out⟩
 ·have f:Hid (oc i H=false):=by show _=_;unfold oc;simp[c]
  have B:((i.length:Int)==(H.length:Int))=false:=UV (by omega);go_enter func133,ntmps133;go_wp2;go_ret;exact⟨aD f.out.symm,ab.refl _ _⟩
def xc(rec:Nat->Int):Nat->Nat->List Nat->List Nat
 | 0,_,acc=>acc
 | m+1,b,acc=>xc rec m (rec (b-1)).toNat ((b-1) :: acc)
def mJ(P:List dj)(i:Nat):List Nat:=xc (dS P) (bO P i).need i []
theorem Mp(c:Nat->Int)(m:Nat):∀b a,(xc c m b a).length=m+a.length:=by
 induction m with
 | zero=>intro b a;simp[xc]
 | succ m d=>intro b a;rw[xc,d];simp;omega
theorem Jy:(mJ b f).length=(bO b f).need:=by unfold mJ;rw[Mp];simp
theorem N7(j:∀i,z7 i<=(i:Int))(m:Nat):∀b a i,b<=i->0<=qI z7 m b->(∀q∈a,q<i)->∀q∈xc z7 m b a,q<i:=by
 induction m with
 | zero=>intro b a i _ _ h;exact h
 | succ m k =>
  intro b a i l c h q d;rw[qI]at c;rw[xc]at d
  by_cases f:b=0
  ·rw[QW f]at c;omega
  ·rw[QT f]at c
   by_cases g:z7 (b-1)<0
   ·rw[QW g]at c;omega
   ·rw[QT g]at c
    have:=j (b-1);refine k _ _ i (by omega) c (fun q d=>?_) q d
    rcases Rj.1 d with e | e
    ·omega
    ·exact h q e
theorem Mj(h:0<=dS b f):∀q∈mJ b f,q<f:=by
 rw[vM]at h;exact N7 (vN b) _ _ _ f (QR _) h (fun q a=>by cases a)
theorem N3(m x:Nat)(L:List Nat):(jX (List.replicate (m+1) 0++L)).set m (.int .i64 x)=jX (List.replicate m 0++x :: L):=by
 unfold jX
 induction m with
 | zero=>simp
 | succ m a=>rw[TY,Ti,Tp,SB,a];simp[List.replicate_succ]
theorem IN:madeCells (Value.int .i64 0).cells (f*1)=(jX (List.replicate f 0)).toArray:=by
 rw[UZ]
 apply Array.ext
 ·rw[Su];simp[jX]
 ·intro i a b
  have e:(Value.int .i64 0).cells=#[.int .i64 0]:=rfl;simp[madeCells,e,Nat.mod_one,jX]
def nG(w:World)(g:Nat)(L:List Nat):Prop:=w.heap[g]?=some (.cells (jX L).toArray 3 (0,0))
theorem nG.src{L:List Nat}(h:nG k v L):qD k (some ⟨v,0,none⟩) L:=by
 intro b x a;refine⟨v,rfl,ae h,?_⟩;rw[aa h];simp[jX,a]
theorem Jx(hl:b.length<=100000000)(hN:M0 b)(hi:T<b.length)(hS:cm S o 6 kV b)(D:0<=dS b T) :
  Calls prog 102 #[.agg #[.slice o b.length a,.int .i64 M,.string N,.int .i64 g,.int .i64 z0],.int .i64 T] S fun e x=>∃i,e=.returned (.slice (some ⟨i,0,none⟩) (bO b T).need (bO b T).need)/\nG x i (mJ b T)/\ab [] S x:=by
 obtain⟨i0,U,H,I,ac⟩:=Re z8;have ap:=hN T;have G:=fun S=>dB (P:=prog) S 26 3 i0 _ underlying26 U H (bO b T).need 1 I (by rw[ac];omega) (by omega)
 obtain⟨z,w⟩:∃z,Hid (madeCells (Value.int .i64 0).cells ((bO b T).need*1)=z):=⟨_,rfl⟩
 have P:Hid (z=(jX (List.replicate (bO b T).need 0)).toArray):=by show _=_;rw[<-w.out,IN]
 rw[w.out]at G;obtain⟨W,HW⟩:∃W,Hid (S.alloc (.cells #[.slice o b.length a,.int .i64 M,.string N,.int .i64 g,.int .i64 z0] 122)=W):=⟨_,rfl⟩
 have y:W.heap[S.heap.size]?=some (.cells #[.slice o b.length a,.int .i64 M,.string N,.int .i64 g,.int .i64 z0] 122 (0,0)):=by rw[<-HW.out];exact QS _ _
 have r:Hid (ab [] S W):=by show ab [] S W;rw[<-HW.out];exact(ab.refl [] _).alloc _
 have HS:=hI (hS.Vb r.out);have p0:W.cell? ⟨S.heap.size,0,none⟩=some (.slice o b.length a):=by rw[aa y];rfl
 have hz:=ae y;have ag:(T:Int)<(b.length:Int):=by omega
 obtain⟨i,rfl,Y,-,-,q2,-⟩:=cm.step HS.out T hi;have HB:=hI y;rw[vM]at D;have H0:=hI D;have Q:Hid (xc (dS b) (bO b T).need T []=mJ b T):=rfl;have ar:=hI (G W);generalize (bO b T).need=n at *;generalize mJ b T=J at *;have I0:Hid (nG (W.alloc (.cells z 3)) W.heap.size (List.replicate n 0++[])):=by show _=_;rw[Rl,P.out];exact QS _ _
 clear hS y D;go_enter func102,ntmps102
 go_upto_region 1 with fail
 rw[HW.out];go_wp2;clear q2 Y p0 G
 go_loopg [7,8] n (fun ms bv kv wr=>∃(m f:Nat) (L:List Nat),m<=n/\ms=m/\bv=.int .i64 f/\kv=.int .i64 ((m:Int)-1)/\f<=T/\Hid (0<=qI (dS b) m f)/\Hid (xc (dS b) m f L=J)/\Hid (nG wr W.heap.size (List.replicate m 0++L))/\Hid (ab [] W wr))
 case atStart=>exact⟨n,T,[],by omega,rfl,rfl,by go_num,by omega,H0,Q,I0,(ab.refl _ _).alloc _⟩
 case round =>
  obtain⟨m,f,L,hm,an,rfl,rfl,hb,d,u,p,R⟩:=hrel;have B:=hI (r.out.trans R.out)
  cases m with
  | zero =>
   have HE:Hid (nG wr W.heap.size J):=by show nG wr W.heap.size J;have:=p.out;rw[<-u.out];simpa [xc] using this
   go_wp2;go_ret;exact⟨W.heap.size,rfl,HE.out,B.out⟩
  | succ q =>
   rw[qI]at d
   have t:f≠0:=fun e=>by
    have:=d.out;rw[QW e]at this;omega
   obtain⟨c,rfl⟩:∃c,f=c+1:=⟨f-1,by omega⟩
   rw[QT t,SD]at d
   have s:¬dS b c<0:=fun e=>by
    have:=d.out;rw[QW e]at this;omega
   rw[QT s]at d;rw[xc,SD]at u;have j:=R.out.get HB.out (by simp);have r0:wr.cell? ⟨S.heap.size,0,none⟩=some (.slice (some ⟨i,0,none⟩) b.length a):=by rw[aa j];rfl
   have r1:wr.cell? ⟨S.heap.size,1,none⟩=some (.int .i64 M):=by rw[aa j];rfl
   have r2:wr.cell? ⟨S.heap.size,2,none⟩=some (.string N):=by rw[aa j];rfl
   have r3:wr.cell? ⟨S.heap.size,3,none⟩=some (.int .i64 g):=by rw[aa j];rfl
   have r4:wr.cell? ⟨S.heap.size,4,none⟩=some (.int .i64 z0):=by rw[aa j];rfl
   have ai:=ae j;have af:=ae p.out;have u0:=am p.out q
   have u1:wr.cell? ⟨W.heap.size,q,none⟩=some (.int .i64 0):=by
    rw[aa p.out];simp[jX,List.replicate_succ']
   have ad:(q:Int)<(n:Int):=by omega
   have al:((q:Int)+1-1)=(q:Int):=by omega
   have HC:Hid (∀v,ab [] W v->Calls prog 132 #[.agg #[.slice (some ⟨i,0,none⟩) b.length a,.int .i64 M,.string N,.int .i64 g,.int .i64 z0],.int .i64 c] v fun e x=>e=.returned (.int .i64 (dS b c))/\ab [] v x):=fun v kx=>tJ b _ a M N g z0 hl hN (c+1) c v (by omega) (by omega) (cm.Vb HS.out kx)
   have V:=vN b c;obtain⟨F,l⟩:∃F:Nat,dS b c=F:=⟨(dS b c).toNat,by omega⟩
   rw[l]at HC u d V;rw[Sa]at u d;obtain⟨X,A⟩:∃X,Hid (wr.setCell ⟨W.heap.size,q,none⟩ (.int .i64 (c:Int))=X):=⟨_,rfl⟩
   have h:Hid (ab [] W X):=by show ab [] W X;rw[<-A.out];exact R.out.setCell (QV (by simp)) _
   have C:Hid (nG X W.heap.size (List.replicate q 0++c :: L)):=by
    show _=_
    rw[<-A.out,ah p.out]
    congr 2
    have:=N3 q c L;rw[<-this];simp
   have k:=h.out.get HB.out (by simp);have x0:X.cell? ⟨S.heap.size,0,none⟩=some (.slice (some ⟨i,0,none⟩) b.length a):=by rw[aa k];rfl
   have x1:X.cell? ⟨S.heap.size,1,none⟩=some (.int .i64 M):=by rw[aa k];rfl
   have x2:X.cell? ⟨S.heap.size,2,none⟩=some (.string N):=by rw[aa k];rfl
   have x3:X.cell? ⟨S.heap.size,3,none⟩=some (.int .i64 g):=by rw[aa k];rfl
   have x4:X.cell? ⟨S.heap.size,4,none⟩=some (.int .i64 z0):=by rw[aa k];rfl
   have xz:=ae k;have E:=hI (HC.out X h.out);clear l s t
   go_upto_region 8 with fail
   rw[A.out];go_wp2_with (go_at_call 132;refine QU E.out ?_;rintro e w1 ⟨rfl,K⟩;have O:=hI (h.out.trans K);have Z:=(show Hid (nG w1 W.heap.size (List.replicate q 0++c :: L)) from K.get C.out (by simp));clear K)
   go_roundg q
   case measure=>omega
   case rel=>exact⟨q,F,c :: L,by omega,rfl,rfl,by go_num,by omega,d,u,Z,O⟩
def kN(T:List Tk)(S:List Sm)(a:Nat)(e:List ByteArray):List ByteArray:=e.filter (fun x=>kZ T S x a)
theorem J4(h:f<d.length):kN l w T (d.take (f+1))=kN l w T (d.take f)++(if kZ l w d[f] T=true then [d[f]] else []):=by
 unfold kN;rw[RG h,RV]
 congr 1
 cases a:kZ l w d[f] T
 ·rw[Ss (by rw[a];simp)];rfl
 ·rw[SG (p:=fun x=>kZ l w x T) a];rfl
theorem qW(X:fz S zb l o a w z4 T)(Z:nK l w x)(Y:ge S y8 H)(hl:H.length<=900000000) :
  Calls prog 241 #[.pointer (some ⟨zb,0,none⟩),.int .i64 x,.slice y8 H.length y] S fun e q=>∃b,e=.returned (.slice b.ao (kN l w x H).length b.cap)/\gw S q b (aB (kN l w x H)):=by
 have HD:=hI X;have d:=hI Z.ok;have F:=hI Y;have Q:Hid (gw S S ⟨none,0⟩ (aB [])):=⟨QZ _ _ _ _,(by intro k U;cases U),ab.refl _ _⟩;obtain⟨iS,L,z,r,B⟩:=Re js;clear X Z Y;go_enter func241,ntmps241;go_wp2
 go_loopg [7,8] H.length (fun g ac i wr=>∃(k:Nat) (b:Hd) (O:List ByteArray),k<=H.length/\g=H.length-k/\ac=.slice b.ao O.length b.cap/\i=.int .i64 k/\O.length<=k/\Hid (O=kN l w x (H.take k))/\Hid (gw S wr b (aB O)))
 case atStart=>exact⟨0,⟨none,0⟩,[],by omega,rfl,rfl,rfl,by simp,by show _=_;simp[kN],Q⟩
 case round =>
  obtain⟨k,b,O,U,hg,rfl,rfl,hO,V,D⟩:=hrel
  by_cases u:k<H.length
  ·have ad:(k:Int)<(H.length:Int):=by omega
   obtain⟨I,rfl,h,C⟩:=(ge.Vb F.out D.out.kept) k H[k] (QP u);have c:=hI (J4 l w x H k u);rw[<-V.out]at c;have N:=hI (AJ zb x H[k] l o a w z4 T wr (fz.Vb HD.out D.out.kept) d.out.m d.out.s d.out.t d.out.v);have R:Hid (∀q,ab [] wr q->q.cell? ⟨I,k,none⟩=some (.string H[k])/\I<q.heap.size):=fun q W=>⟨by rw[Q6 (W.block I h (by simp))];exact C,QX h W.size⟩
   generalize H[k]=E at *;obtain⟨J,K⟩:∃J,Hid (kZ l w E x=J):=⟨_,rfl⟩
   rw[K.out]at N c
   cases J
   ·have n:Hid (O=kN l w x (H.take (k+1))):=by have:=c.out;rw[QT (by simp),Rl]at this;exact this.symm
    go_wp2_with (go_at_call 173;refine QU N.out ?_;rintro e w1 ⟨rfl,p⟩;have f:=hI (D.out.Vb p);clear p)
    go_roundg (H.length-(k+1))
    case measure=>omega
    case rel=>exact⟨k+1,b,O,by omega,rfl,rfl,by go_num,by omega,n,f⟩
   ·have n:Hid (O++[E]=kN l w x (H.take (k+1))):=by have:=c.out;rw[QW rfl]at this;exact this.symm
    go_upto_region 7 with (go_at_call 173;refine QU N.out ?_;rintro e w1 ⟨rfl,p⟩)
    have f:=hI (D.out.Vb p);obtain⟨d0,d1⟩:=R.out w1 p;have M:=f.out.own;have P:(aB O).n<=900000000:=by show O.length<=_;omega
    clear p C h;go_wp2_with (at_builtin;refine bN _ rfl (.tmp 24) (.tmp 29) 61 rfl iS (.string ⟨#[]⟩) 16 b (aB O) [.string E] underlying61 L z r B rfl Rc rfl M P (by omega) rfl rfl (by simp[Value.oneCell']) ?_;intro h5 w5 j A;rw[dr]at j;have G:=hI (f.out.Vl A j);clear j A)
    go_roundg (H.length-(k+1))
    case measure=>omega
    case rel=>exact⟨k+1,h5,O++[E],by omega,rfl,by simp[aB],by go_num,by simp;omega,n,G⟩
  ·have e:k=H.length:=by omega
   subst e;have n:Hid (kN l w x H=O):=by show _=_;rw[V.out,RK]
   go_wp2;go_ret;exact⟨b,by rw[n.out];rfl,by rw[n.out];exact D.out⟩
def DP(T:List Tk)(S:List Sm)(a:Nat)(Y:List ByteArray)(x:ByteArray):Bool:=Y.all (fun y=>hQ T S x y a)
def tL(T:List Tk)(S:List Sm)(a:Nat)(E F:List ByteArray):Bool:=(kN T S a E).all (DP T S a (kN T S a F))
theorem FZ{p:ByteArray->Bool}(h:f<D.length)(a:p D[f]=false):D.all p=false:=by
 rw[Ue];exact⟨D[f],Rb h,by rw[a];simp⟩
theorem Ba{p:ByteArray->Bool}(c:v=D.length)(h:∀k (a:k<D.length),k<v->p D[k]=true):D.all p=true:=by
 rw[Sn];intro x b;obtain⟨k,a,e⟩:=R0 b;rw[<-e];exact h k a (by omega)
theorem zp:(kN l w T d).length<=d.length:=Sc _ _
theorem Hz(T:List Tk)(n:Option Addr)(L:Nat)(S:List Sm)(d:Option Addr)(N:Nat)(w:World)(I:fz w zb T n L S d N)(K:nK T S x)(hE:ge w z4 i)(hF:ge w z3 H)(hl:i.length<=900000000)(R:H.length<=900000000) :
  Calls prog 214 #[.pointer (some ⟨zb,0,none⟩),.int .i64 x,.slice z4 i.length z2,.slice z3 H.length f] w fun e A=>e=.returned (.bool (tL T S x i H))/\ab [] w A:=by
 have HD:=hI I;have P:=hI K;have D:=hI (qW zb x i z4 z2 T n L S d N w I K hE hl);have z:Hid (∀c,ab [] w c->Calls prog 241 #[.pointer (some ⟨zb,0,none⟩),.int .i64 x,.slice z3 H.length f] c fun e A=>∃h',e=.returned (.slice h'.ao (kN T S x H).length h'.cap)/\gw c A h' (aB (kN T S x H))):=fun c J=>qW zb x H z3 f T n L S d N c (I.Vb J) K (hF.Vb J) R
 have HR:Hid (tL T S x i H=(kN T S x i).all (DP T S x (kN T S x H))):=rfl;have an:=zp T S x i;have ax:=zp T S x H;generalize kN T S x i=X at *;generalize kN T S x H=Y at *;clear I K hE hF;go_enter func214,ntmps214
 go_upto_region 2 with (go_at_call 241;refine QU D.out ?_;rintro e w1 ⟨h1,rfl,M⟩)
 have F:=hI (z.out w1 M.kept)
 go_upto_region 3 with (go_at_call 241;refine QU F.out ?_;rintro e w2 ⟨W,rfl,G⟩)
 have HX:=(show Hid _ from(M.own.srcX.Vb G.kept));have HY:=hI G.own.srcX;have t:=hI (M.kept.trans G.kept);clear M G D z F;obtain⟨a1,c1⟩:=h1;obtain⟨a2,c2⟩:=W;go_wp2
 go_loopg [11] X.length (fun g ac wr=>∃k:Nat,k<=X.length/\g=X.length-k/\ac=.int .i64 k/\Hid (∀j (l:j<X.length),j<k->DP T S x Y X[j]=true)/\Hid (ab [] w2 wr))
 case atStart=>exact⟨0,by omega,rfl,rfl,(fun j _ l=>by omega),ab.refl _ _⟩
 case round =>
  obtain⟨k,hk,hg,rfl,HN,HK⟩:=hrel
  by_cases v:k<X.length
  ·have U:(k:Int)<(X.length:Int):=by omega
   obtain⟨Q,Z,u,qX⟩:=HX.out k X[k] (QP v);replace Z:a1=some ⟨Q,0,none⟩:=Z;subst Z;have af:Hid (DP T S x Y X[k]=false->tL T S x i H=false):=fun h=>by rw[HR.out];exact FZ k v h
   have ad:Hid (DP T S x Y X[k]=true->∀j (l:j<X.length),j<k+1->DP T S x Y X[j]=true):=fun h j l W=>by
    by_cases e:j=k
    ·subst e;exact h
    ·exact HN.out j l (by omega)
   generalize X[k]=b at *;go_wp2
   go_loopg [12] Y.length (fun g ac wr=>∃m:Nat,m<=Y.length/\g=Y.length-m/\ac=.int .i64 m/\Hid (∀j (l:j<Y.length),j<m->hQ T S b Y[j] x=true)/\Hid (ab [] w2 wr))
   case atStart=>exact⟨0,by omega,rfl,rfl,(fun j _ l=>by omega),HK⟩
   case round =>
    obtain⟨m,hm,ai,rfl,E,a⟩:=hrel
    by_cases q:m<Y.length
    ·have V:(m:Int)<(Y.length:Int):=by omega
     obtain⟨gY,eY,ar,qY⟩:=(ge.Vb HY.out a.out) m Y[m] (QP q);replace eY:a2=some ⟨gY,0,none⟩:=eY;subst eY;have al:wr.cell? ⟨Q,k,none⟩=some (.string b):=by rw[Q6 (a.out.block Q u (by simp))];exact qX
     have ag:=QX u a.out.size;have C:Hid (∀c,ab [] wr c->Calls prog 94 #[.pointer (some ⟨zb,0,none⟩),.string b,.string Y[m],.int .i64 x] c fun e A=>e=.returned (.bool (hQ T S b Y[m] x))/\ab [] c A):=fun c J=>vI zb x b Y[m] T n L S d N c (fz.Vb HD.out ((t.out.trans a.out).trans J)) P.out
     have o:Hid (hQ T S b Y[m] x=false->DP T S x Y b=false):=fun h=>FZ (p:=fun y=>hQ T S b y x) m q h
     have r:Hid (hQ T S b Y[m] x=true->∀j (l:j<Y.length),j<m+1->hQ T S b Y[j] x=true):=fun h j l W=>by
      by_cases e:j=m
      ·subst e;exact h
      ·exact E.out j l (by omega)
     generalize Y[m]=y at *;obtain⟨ap,O⟩:∃ap,Hid (hQ T S b y x=ap):=⟨_,rfl⟩
     rw[O.out]at C o r
     go_upto_region 9 with fail
     go_region_with (go_at_call 94;refine(C.out _ (by exact(ab.refl [] wr).drew)).mono ?_;rintro e w3 ⟨rfl,k3⟩)
     all_goals
      have B:=(show Hid _ from(a.out.drew).trans k3)
      cases ap
      ·have s:=hI (af.out (o.out rfl))
       go_wp2;go_ret;exact⟨aD s.out.symm,t.out.trans B.out⟩
      ·have s:=hI (r.out rfl)
       go_wp2
       go_roundg (Y.length-(m+1))
       case measure=>omega
       case rel=>exact⟨m+1,by omega,rfl,by go_num,s,B⟩
    ·have e:m=Y.length:=by omega
     have s:=hI (ad.out (Ba e E.out));have V:¬(m:Int)<(Y.length:Int):=by omega
     go_wp2
     go_roundg (X.length-(k+1))
     case measure=>omega
     case rel=>exact⟨k+1,by omega,rfl,by go_num,s,a⟩
  ·have e:k=X.length:=by omega
   have s:Hid (tL T S x i H=true):=by show _=_;rw[HR.out];exact Ba e HN.out
   have U:¬(k:Int)<(X.length:Int):=by omega
   go_wp2;go_ret;exact⟨aD s.out.symm,t.out.trans HK.out⟩
structure Sl where
 ao:Option Addr
 cap:Nat
 L:List ByteArray
def Ff(s:Sl):List Value:=[.slice s.ao s.L.length s.cap]
theorem vw(s:Sl):(Ff s).length=1:=rfl
def lA(A:List Sl):dN:=kU 61 1 Ff A
theorem qw(L:List Sl)(x:Sl):(⟨(lA L).e,(lA L).size,(lA L).n+1,(lA L).xs++Ff x⟩:dN)=lA (L++[x]):=gM _ _ _ _ _
structure pr(w:World)(s:Sl):Prop where
 src:∀(k:Nat) (x:ByteArray),s.L[k]?=some x->∃g o,s.ao=some ⟨g,o,none⟩/\g<w.heap.size/\w.cell? ⟨g,o+k,none⟩=some (.string x)
 nil:s.ao=none->s.L.length=0/\s.cap=0
 le:s.L.length<=s.cap
theorem pr.Vb{s:Sl}(h:pr k s)(a:ab [] k zt):pr zt s :=
 ⟨fun j x c=>by
  obtain⟨g,o,e,b,d⟩:=h.src j x c;exact⟨g,o,e,QX b a.size,by rw[Q6 (a.block g b (by simp))];exact d⟩,h.nil,h.le⟩
def pa(w:World)(A:List Sl):Prop:=∀s∈A,pr w s
theorem pa.Vb{A:List Sl}(h:pa k A)(a:ab [] k zt):pa zt A:=fun s b=>(h s b).Vb a
theorem GZ:(⟨T,z2,none⟩:Addr).add f=⟨T,z2+f,none⟩:=by
 simp only[Addr.add]
 split
 ·next h=>subst h;rfl
 ·rfl
theorem pr.cells{s:Sl}(h:pr k s):∀b,s.ao=some b->∀j u,(cN s.L)[j]?=some u->k.cell? (b.add j)=some u:=by
 intro b e j u a;rw[cN,Rq]at a
 cases d:s.L[j]? with
 | none=>rw[d]at a;cases a
 | some x =>
  rw[d]at a
  cases a
  obtain⟨g,o,f,-,c⟩:=h.src j x d;rw[e]at f
  cases f
  rw[GZ];exact c
theorem gw.sl(a:gw k zt y6 (aB D)):pr zt ⟨y6.ao,y6.cap,D⟩ :=
 ⟨fun d x b=>by
  obtain⟨g,e,f,c⟩:=a.own.srcX d x b;exact⟨g,0,e,f,by rw[SJ];exact c⟩,a.none,a.le⟩
def wt(V:List ByteArray)(x:ByteArray):Nat:=V.findIdx (fun y=>(y.toList==x.toList))
def LZ(V:List ByteArray)(A:List (List ByteArray))(x:ByteArray):List ByteArray:=if wt V x<V.length then A.getD (wt V x) [] else [x]
def iU(V:List ByteArray)(A:List (List ByteArray))(e:List ByteArray):List ByteArray:=e.flatMap (LZ V A)
theorem Ny(b:v<D.length)(h:(D[v].toList==y7.toList)=true)(c:∀j (a:j<D.length),j<v->(D[j].toList==y7.toList)=false):wt D y7=v:=by
 unfold wt;rw[List.findIdx_eq b];exact⟨h,fun j a=>c j (by omega) a⟩
theorem Lp(d:v=D.length)(c:∀j (a:j<D.length),j<v->(D[j].toList==y7.toList)=false):wt D y7=D.length:=by
 unfold wt;rw[List.findIdx_eq_length];intro y b;obtain⟨j,a,e⟩:=R0 b;rw[<-e];exact c j a (by omega)
theorem L7(A:List (List ByteArray))(e:List ByteArray)(k:Nat)(h:k<e.length):iU d A (e.take (k+1))=iU d A (e.take k)++LZ d A e[k]:=by
 unfold iU;rw[RG h,Sh];simp
def QL:Sl:=⟨none,0,[]⟩
def fQ(A:List Sl)(i:Nat):Sl:=A.getD i QL
theorem GM(A:List Sl)(i:Nat)(h:i<A.length):A[i]?=some (fQ A i):=by
 unfold fQ;rw[QQ,QP h];rfl
theorem jK(A:List Sl)(i:Nat)(h:i<A.length):fQ A i∈A:=R4 (GM A i h)
theorem cm.sl{A:List Sl}(h:cm k y5 1 Ff A)(a:Nat)(b:a<A.length):∃g,y5=some ⟨g,0,none⟩/\g<k.heap.size/\k.cell? ⟨g,a,none⟩=some (.slice (fQ A a).ao (fQ A a).L.length (fQ A a).cap):=by
 obtain⟨g,e,d,c⟩:=h a _ (GM A a b);refine⟨g,e,d,?_⟩;have:=c 0 _ rfl;simpa using this
theorem wF(A:List Sl)(k:Nat)(h:k<A.length):(A.map (·.L)).getD k []=(fQ A k).L:=by
 unfold fQ;rw[QQ,QQ,Rq,QP h];rfl
theorem CN(A:List Sl)(p:Option Addr)(cA:Nat)(E:List ByteArray)(ax:Option Addr)(cE:Nat)(w:World)(hV:ge w z3 H)(hA:cm w p 1 Ff A)(S:pa w A)(br:H.length<=A.length)(bg:A.length<=100000)(hE:ge w ax E)(bf:E.length<=10000)(Y:∀s∈A,s.L.length<=10000) :
  Calls prog 179 #[.agg #[.slice z3 H.length f,.slice p A.length cA],.slice ax E.length cE] w fun e m=>∃c,e=.returned (.slice c.ao (iU H (A.map (·.L)) E).length c.cap)/\gw w m c (aB (iU H (A.map (·.L)) E)):=by
 obtain⟨W,HW⟩:∃W,Hid (w.alloc (.cells #[.slice z3 H.length f,.slice p A.length cA] 271)=W):=⟨_,rfl⟩
 have BW:W.heap[w.heap.size]?=some (.cells #[.slice z3 H.length f,.slice p A.length cA] 271 (0,0)):=by rw[<-HW.out];exact QS _ _
 have G:Hid (ab [] w W):=by show ab [] w W;rw[<-HW.out];exact(ab.refl [] _).alloc _
 have HB:=hI BW;have HV:=hI hV;have HA:=hI hA;have a1:=hI S;have HE:=hI hE;have a7:=hI Y;have bs:Hid (gw w W ⟨none,0⟩ (aB [])):=⟨QZ _ _ _ _,(by intro k Q;cases Q),G.out⟩;obtain⟨iS,ac,D,v,C⟩:=Re js;have ai:Hid (([]:List ByteArray)=iU H (A.map (·.L)) (E.take 0)):=by show _=_;simp[iU]
 obtain⟨M,Z⟩:∃M,Hid (A.map (·.L)=M):=⟨_,rfl⟩
 rw[Z.out]at ai ⊢;have bc:Hid (∀k,k<A.length->M.getD k []=(fQ A k).L):=fun k Q=>by rw[<-Z.out];exact wF A k Q
 clear hV hA S hE Y
 have az:Hid (∀wr,ab [] w wr->wr.heap[w.heap.size]?=W.heap[w.heap.size]?->wr.cell? ⟨w.heap.size,0,none⟩=some (.slice z3 H.length f)/\wr.cell? ⟨w.heap.size,1,none⟩=some (.slice p A.length cA)/\w.heap.size<wr.heap.size):=fun wr _ e=>by
  rw[HB.out]at e;exact⟨by rw[aa e];rfl,by rw[aa e];rfl,ae e⟩
 go_enter func179,ntmps179
 go_upto_region 1 with fail
 rw[HW.out];go_wp2
 go_loopg [5,6] E.length (fun g o i wr=>∃(k:Nat) (c:Hd) (O:List ByteArray),k<=E.length/\g=E.length-k/\o=.slice c.ao O.length c.cap/\i=.int .i64 k/\O.length<=10000*k/\Hid (O=iU H M (E.take k))/\Hid (gw W wr c (aB O)))
 case atStart=>exact⟨0,⟨none,0⟩,[],by omega,rfl,rfl,rfl,by simp,ai,⟨QZ _ _ _ _,(by intro k Q;cases Q),ab.refl _ _⟩⟩
 case round =>
  obtain⟨k,c,O,Q,hg,rfl,rfl,hO,HO,ag⟩:=hrel
  by_cases T:k<E.length
  ·have bj:(k:Int)<(E.length:Int):=by omega
   obtain⟨gE,rfl,ar,ba⟩:=HE.out k E[k] (QP T);have J:=hI (L7 H M E k T);rw[<-HO.out]at J;have a3:Hid (∀m,ab [] w m->m.cell? ⟨gE,k,none⟩=some (.string E[k])/\gE<m.heap.size):=fun m V=>⟨by rw[Q6 (V.block gE ar (by simp))];exact ba,QX ar V.size⟩
   generalize E[k]=x at *;have al:Hid (LZ H M x=if wt H x<H.length then M.getD (wt H x) [] else [x]):=rfl;go_wp2
   go_loopg [7] (H.length) (fun g i wr=>∃q:Nat,q<=H.length/\g=H.length-q/\i=.int .i64 q/\Hid (∀j (hj:j<H.length),j<q->(H[j].toList==x.toList)=false)/\Hid (gw W wr c (aB O)))
   case atStart=>exact⟨0,by omega,rfl,rfl,(fun j _ hj=>by omega),ag⟩
   case round =>
    obtain⟨q,hq,be,rfl,K,d⟩:=hrel;have l:=hI (G.out.trans d.out.kept);have a5:=hI (d.out.kept.get HB.out (by simp));obtain⟨b0,b1,bk⟩:=az.out wr l.out (by rw[a5.out,HB.out]);obtain⟨d0,d1⟩:=a3.out wr l.out
    by_cases I:q<H.length
    ·have aS:(q:Int)<(H.length:Int):=by omega
     obtain⟨gV,eV,bo,bp⟩:=(ge.Vb HV.out l.out) q H[q] (QP I);subst eV;have an:Hid ((H[q].toList==x.toList)=true->wt H x=q):=fun h=>Ny I h K.out
     have U:Hid ((H[q].toList==x.toList)=false->∀j (hj:j<H.length),j<q+1->(H[j].toList==x.toList)=false):=fun h j hj h2=>by
      by_cases e:j=q
      ·subst e;exact h
      ·exact K.out j hj (by omega)
     generalize H[q]=y at *
     cases hy:(y.toList==x.toList)
     ·have HM:=hI (U.out hy)
      go_upto_region 6 with fail
      go_quiet (fail)
      have a:=hI (d.out.Vb ((ab.refl [] wr).drewN nq));go_wp2
      go_roundg (H.length-(q+1))
      case measure=>omega
      case rel=>exact⟨q+1,by omega,rfl,by go_num,HM,a⟩
     ·have af:=an.out hy
      have u:q<A.length:=by omega
      have bd:(q:Int)<(A.length:Int):=by omega
      obtain⟨gA,eA,ap,X⟩:=cm.sl (cm.Vb HA.out l.out) q u;subst eA;have P:=(show Hid _ from(pa.Vb a1.out l.out) (fQ A q) (jK A q u));have aT:=a7.out (fQ A q) (jK A q u)
      have t:Hid (O++(fQ A q).L=iU H M (E.take (k+1))):=by
       show _=_
       rw[J.out,al.out,af,QW I,bc.out q u]
      have a4:Hid (∀m,ab [] wr m->m.cell? ⟨gA,q,none⟩=some (.slice (fQ A q).ao (fQ A q).L.length (fQ A q).cap)/\gA<m.heap.size):=fun m V=>⟨by rw[Q6 (V.block gA ap (by simp))];exact X,QX ap V.size⟩
      clear af;generalize fQ A q=s at *;obtain⟨ad,z,sL⟩:=s;simp only at X P aT t a4
      go_upto_region 6 with fail
      go_quiet (fail)
      have R:=(ab.refl [] wr).drewN nq;have a:=hI (d.out.Vb R);have B:=hI (pr.Vb P.out R);have a6:=hI B.out.cells;have a0:Hid (ad=none->sL.length=0/\z=0):=B.out.nil;have N:=a.out.own;clear R P;go_wp2_with (at_builtin;refine ed _ rfl (.tmp 38) (.tmp 43) 61 rfl iS (.string ⟨#[]⟩) 16 c (aB O) underlying61 ac D v C rfl Rc rfl N ad sL.length z (cN sL) rfl (by simp[aB,cN]) a0.out a6.out (lY sL) (by simp only[aB];omega) (by omega) ?_;intro h5 w5 b r;rw[CT]at b;have F:=hI (a.out.Vl r b);clear b r)
      go_roundg (E.length-(k+1))
      case measure=>omega
      case rel=>exact⟨k+1,h5,O++sL,by omega,rfl,by simp[aB],by go_num,by simp;omega,t,F⟩
    ·have eq:q=H.length:=by omega
     have aS:decide ((q:Int)<(H.length:Int))=false:=Sb (by omega);have bl:¬(q:Int)<(H.length:Int):=by omega
     have t:Hid (O++[x]=iU H M (E.take (k+1))):=by
      show _=_
      rw[J.out,al.out,Lp eq K.out,QT (by omega)]
     go_upto_region 6 with fail
     go_quiet (fail)
     have R:=(ab.refl [] wr).drewN nq;have a:=hI (d.out.Vb R);have N:=a.out.own;have a2:(aB O).n<=900000000:=by show O.length<=_;omega
     clear R;go_wp2_with (at_builtin;refine bN _ rfl (.tmp 45) (.tmp 50) 61 rfl iS (.string ⟨#[]⟩) 16 c (aB O) [.string x] underlying61 ac D v C rfl Rc rfl N a2 (by omega) rfl rfl (by simp[Value.oneCell']) ?_;intro h5 w5 b r;rw[dr]at b;have F:=hI (a.out.Vl r b);clear b r)
     go_roundg (E.length-(k+1))
     case measure=>omega
     case rel=>exact⟨k+1,h5,O++[x],by omega,rfl,by simp[aB],by go_num,by simp;omega,t,F⟩
  ·have e:k=E.length:=by omega
   subst e;have HM:Hid (iU H M E=O):=by show _=_;rw[HO.out,RK]
   go_wp2;go_ret;exact⟨c,by rw[HM.out];rfl,by rw[HM.out];exact ag.out.base G.out⟩
def GI(S:List Sm)(hs:List Nat)(i:Nat):Bool:=((au S (hs.getD i 0)).k.toList == [36,102])
def xO(S:List Sm)(hs:List Nat)(k:Nat):List Nat:=(List.range k).filter (GI S hs)
def cI(T:List Tk)(S:List Sm)(j:Nat):List ByteArray:=bu T (au S j).h
def gK(T:List Tk)(S:List Sm)(hs:List Nat)(k:Nat):List ByteArray:=(xO S hs k).map (fun i=>(cI T S (hs.getD i 0)).getD 1 ⟨#[]⟩)
def gi(S:List Sm)(hs:List Nat)(M:List (List ByteArray))(k:Nat):List (List ByteArray):=(xO S hs k).map (fun i=>(M.getD i []).drop 1)
theorem Jn:xO w n (f+1)=xO w n f++(if GI w n f=true then [f] else []):=gZ _ _
theorem Ej:(prog.info? 61).map (fun i=>(i.zero,i.size,i.bytes))=some (some (.slice none 0 0),1,24):=by kernel_rfl
structure Ki(w wr:World)(V:List ByteArray)(hv:Hd)(B:List Sl)(hb:Hd):Prop where
 r:wr.heap[w.heap.size]?=some (.cells #[.slice none 0 0,.slice none 0 0] 271 (0,0))
 c:wr.heap[w.heap.size+1]?=some (.cells #[.slice hv.ao V.length hv.cap,.slice hb.ao B.length hb.cap] 271 (0,0))
 v:aw wr hv (aB V)
 b:aw wr hb (lA B)
 fv:∀k,hv.blk=some k->w.heap.size+1<k
 fb:∀k,hb.blk=some k->w.heap.size+1<k
 ap:∀k,hv.blk=some k->hb.blk≠some k
 s:pa w B
 kept:ab [] w wr
section
variable {w wr w5:World} {V V':List ByteArray} {hv hb h5:Hd} {B B':List Sl}
theorem Ki.Vb(a:Ki w wr V hv B hb)(k:ab [] wr w5):Ki w w5 V hv B hb :=
 ⟨k.get a.r (by simp),k.get a.c (by simp),a.v.Vb k,a.b.Vb k,a.fv,a.fb,a.ap,a.s,a.kept.trans k⟩
theorem BO(f:∀k,y6.blk=some k->v<k)(c:v<wr.heap.size)(g:bt wr w5 y6 h5):∀k,h5.blk=some k->v<k:=fun k a=>by
 rcases g.blk with e | ⟨q,e,b⟩
 ·exact f k (by rw[<-e];exact a)
 ·rw[e]at a;cases a;omega
theorem wl{h o:Hd}{r:dN}(c:∀k,h.blk=some k->o.blk≠some k)(d:aw wr o r)(g:bt wr w5 h h5):∀k,h5.blk=some k->o.blk≠some k:=fun k b a=>by
 rcases g.blk with e | ⟨q,e,f⟩
 ·exact c k (by rw[<-e];exact b) a
 ·rw[e]at b;cases b
  have:=d.lt a;omega
theorem Ki.addV(a:Ki w wr V hv B hb)(g:bt wr w5 hv h5)(o:aw w5 h5 (aB V')){m:Nat}(h:m=V'.length):Ki w (w5.setCell ⟨w.heap.size+1,0,none⟩ (.slice h5.ao m h5.cap)) V' h5 B hb:=by
 subst h;have i:∀q,q<=w.heap.size+1->q∉hv.blk.toList:=fun q d h=>by have:=a.fv q (aN h);omega
 have n:=ae a.c;have v:=g.kept.get a.r (i _ (by omega));have t:=g.kept.get a.c (i _ (by omega));have j:=BO a.fv n g;have l:aw w5 hb (lA B):=g.beside a.b (fun k p f=>a.ap k f p);have e:ab [w.heap.size+1] w5 (w5.setCell ⟨w.heap.size+1,0,none⟩ (.slice h5.ao V'.length h5.cap)):=(ab.refl _ _).setCell (Q1 (by simp)) _;have u:ab [] w w5:=pK g.kept (fun q d=>by have:=a.fv q (aN d);omega) a.kept;exact⟨e.get v (by simp),by rw[ah t];rfl,o.Vg (fun q d=>e.block q (o.lt d) (by simp;have:=j q d;omega)),l.Vg (fun q d=>e.block q (l.lt d) (by simp;have:=a.fb q d;omega)),j,a.fb,wl a.ap a.b g,a.s,u.setCell (QV (by simp)) _⟩
theorem Ki.addB(a:Ki w wr V hv B hb)(g:bt wr w5 hb h5)(o:aw w5 h5 (lA B'))(s:pa w B'){m:Nat}(j:m=B'.length):Ki w (w5.setCell ⟨w.heap.size+1,1,none⟩ (.slice h5.ao m h5.cap)) V hv B' h5:=by
 subst j;have p:∀q,q<=w.heap.size+1->q∉hb.blk.toList:=fun q d j=>by have:=a.fb q (aN j);omega
 have x:=ae a.c;have u:=g.kept.get a.r (p _ (by omega));have y:=g.kept.get a.c (p _ (by omega));have n:=BO a.fb x g;have l:aw w5 hv (aB V):=g.beside a.v (fun k e b=>a.ap k e b);have f:ab [w.heap.size+1] w5 (w5.setCell ⟨w.heap.size+1,1,none⟩ (.slice h5.ao B'.length h5.cap)):=(ab.refl _ _).setCell (Q1 (by simp)) _;have t:ab [] w w5:=pK g.kept (fun q d=>by have:=a.fb q (aN d);omega) a.kept;have i:=wl (h:=hb) (o:=hv) (fun k e b=>a.ap k b e) a.v g;exact⟨f.get u (by simp),by rw[ah y];rfl,l.Vg (fun q d=>f.block q (l.lt d) (by simp;have:=a.fv q d;omega)),o.Vg (fun q d=>f.block q (o.lt d) (by simp;have:=n q d;omega)),a.fv,n,fun k e b=>i k b e,s,t.setCell (QV (by simp)) _⟩
end
theorem J2{d f:Value}(h:k.heap[v]?=some (.cells #[d,f] 271 (0,0)))(a b:Value) :
  (k.setCell ⟨v,0,none⟩ a).cell? ⟨v,0,none⟩=some a/\((k.setCell ⟨v,0,none⟩ a).setCell ⟨v,1,none⟩ b).cell? ⟨v,1,none⟩=some b:=by
 have c:=ah h 0 a;have e:=ah c 1 b;exact⟨by rw[aa c];rfl,by rw[aa e];rfl⟩
theorem pr.tail{o n:Nat}(a:pr k ⟨some ⟨v,o,none⟩,n,D⟩):pr k ⟨some ⟨v,o+1,none⟩,n-1,D.drop 1⟩:=by
 have b:=a.le;simp only at b;refine⟨fun d x f=>?_,fun h=>(by cases h),(by simp;omega)⟩;simp only[List.getElem?_drop]at f;obtain⟨j,i,e,g,c⟩:=a.src (1+d) x f
 cases e
 exact⟨v,o+1,rfl,g,by rw[show o+1+d=o+(1+d) by omega];exact c⟩
theorem pr.none0(h:y5=none->v=0):pr k ⟨y5,v,[]⟩:=⟨fun b x a=>by simp at a,fun e=>⟨rfl,h e⟩,Ro _⟩
theorem Ju(A:List Sl)(bs:Option Addr)(cA:Nat)(b:World)(hD:fz b I l o a w z4 T)(ok:nK l w y)(hH:qD b z3 n)(D:∀j∈n,j<y)(cP:n.length<=10000)(hA:cm b bs 1 Ff A)(a4:pa b A)(cF:n.length<=A.length)(hF:∀i,i<n.length->GI w n i=true->1<(cI l w (n.getD i 0)).length)(hN:∀s∈A,0<s.L.length) :
  Calls prog 177 #[.pointer (some ⟨I,0,none⟩),.slice z3 n.length f,.slice bs A.length cA] b fun e w'=>∃u t B,e=.returned (.agg #[.slice u.ao (gK l w n n.length).length u.cap,.slice t.ao B.length t.cap])/\B.map (·.L)=gi w n (A.map (·.L)) n.length/\pa b B/\gw b w' u (aB (gK l w n n.length))/\gw b w' t (lA B):=by
 have HD:=hI hD;have b6:=hI ok;have c7:=ok.sm;have db:=ok.tm;have hn:=ok.ok.m;have HH:=hI hH;have cx:=hI D;have HA:=hI hA;have b5:=hI a4;have HF:=hI hF;have HN:=hI hN;obtain⟨iS,ck,b0,br,bx⟩:=Re js;obtain⟨iL,a6,af,ac,ad⟩:=Re Ej
 have S0:Hid (Ki b ((b.alloc (.cells #[.slice none 0 0,.slice none 0 0] 271)).alloc (.cells #[.slice none 0 0,.slice none 0 0] 271)) [] ⟨none,0⟩ [] ⟨none,0⟩):=by
  obtain⟨W1,W⟩:∃W1,W1=b.alloc (.cells #[.slice none 0 0,.slice none 0 0] 271):=⟨_,rfl⟩
  have z1:W1.heap.size=b.heap.size+1:=by rw[W];simp
  have k0:ab [] b W1:=by rw[W];exact(ab.refl [] _).alloc _
  have e0:W1.heap[b.heap.size]?=some (.cells #[.slice none 0 0,.slice none 0 0] 271 (0,0)):=by rw[W];exact QS _ _
  have k1:ab [] W1 (W1.alloc (.cells #[.slice none 0 0,.slice none 0 0] 271)):=(ab.refl [] _).alloc _
  show Ki _ _ _ _ _ _
  rw[<-W];exact⟨k1.get e0 (by simp),by rw[<-z1];exact QS _ _,QZ _ _ _ _,QZ _ _ _ _,(by intro k hk;cases hk),(by intro k hk;cases hk),(by intro k hk;cases hk),(fun s n=>by cases n),k0.trans k1⟩
 obtain⟨M,bg⟩:∃M,Hid (A.map (·.L)=M):=⟨_,rfl⟩
 rw[bg.out];have ct:Hid (∀k,k<A.length->M.getD k []=(fQ A k).L):=fun k hk=>by rw[<-bg.out];exact wF A k hk
 have cj:Hid (([]:List ByteArray)=gK l w n 0):=rfl;have cu:Hid (([]:List Sl).map (·.L)=gi w n M 0):=rfl;clear hD ok hH D hA a4 hF hN;go_enter func177,ntmps177;go_wp2
 go_loopg [8] n.length (fun g i wr=>∃(k:Nat) (V:List ByteArray) (u:Hd) (B:List Sl) (t:Hd),k<=n.length/\g=n.length-k/\i=.int .i64 k/\(V.length<=k/\B.length<=k)/\Hid (V=gK l w n k)/\Hid (B.map (·.L)=gi w n M k)/\Hid (Ki b wr V u B t))
 case atStart=>exact⟨0,[],⟨none,0⟩,[],⟨none,0⟩,by omega,rfl,rfl,⟨QR _,QR _⟩,cj,cu,S0⟩
 case round =>
  obtain⟨k,V,u,B,t,hk,hg,rfl,⟨c4,cB⟩,HV,HB,z⟩:=hrel;have S:=hI z.out.kept
  by_cases D:k<n.length
  ·have cf:(k:Int)<(n.length:Int):=by omega
   have cs:=cx.out n[k] (Rb D);have R:n[k]<w.length:=by omega
   obtain⟨gH,rfl,bz,bf⟩:=(qD.Vb HH.out S.out) k n[k] (QP D);have bp:=hI (fz.Vb HD.out S.out);obtain⟨t0,s0,ch⟩:=bp.out.cells;obtain⟨gs,rfl,co,-,-,-,q3⟩:=bp.out.s.2 n[k] w[n[k]] (QP R);have al:n.getD k 0=n[k]:=by rw[QQ,QP D];rfl
   have bj:Hid (GI w n k=(w[n[k]].k.toList == [36,102])):=by show _=_;unfold GI;rw[al,bM w n[k] R]
   have C:=hI (Jn w n k);have df:((n[k]:Nat):Int)<(w.length:Int):=by omega
   have c3:(0:Int)<=((n[k]:Nat):Int):=by omega
   have bk:Hid ((w[n[k]].k.toList == [36,102])=true->∀wx,ab [] b wx->Calls prog 72 #[.pointer (some ⟨I,0,none⟩),.int .i64 ((n[k]:Nat):Int)] wx fun e w'=>∃h',e=.returned (.slice h'.ao (bu l w[n[k]].h).length h'.cap)/\vj wx w' h' (bu l w[n[k]].h)):=fun h wx kx=>kD I n[k] l o a w _ T wx (fz.Vb HD.out kx) R (by omega) (by have:=b6.out.e n[k] cs;rw[<-bM w n[k] R]at this;exact this (fX h (by decide)))
   have b1:Hid (bu l w[n[k]].h=cI l w (n.getD k 0)):=by show _=_;unfold cI;rw[al,bM w n[k] R]
   rw[b1.out]at bk;have a5:=hI (HF.out k D);rw[bj.out]at C a5;clear b1 bj al;generalize w[n[k]].k=sk at *;generalize n[k]=j at *
   cases h1:(sk.toList == [36,102])
   ·rw[h1,QT (by simp),Rl]at C
    have U:Hid (V=gK l w n (k+1)):=by show _=_;unfold gK;rw[C.out];exact HV.out
    have Q:Hid (B.map (·.L)=gi w n M (k+1)):=by show _=_;unfold gi;rw[C.out];exact HB.out
    go_upto_region 5 with fail
    go_quiet (fail)
    have ai:=hI (z.out.Vb ((ab.refl [] wr).drewN nq));go_wp2
    go_roundg (n.length-(k+1))
    case measure=>omega
    case rel=>exact⟨k+1,V,u,B,t,by omega,rfl,by go_num,⟨by omega,by omega⟩,U,Q,ai⟩
   ·rw[h1,QW rfl]at C
    have bc:=a5.out h1;have aT:=hI (bk.out h1);obtain⟨X,HX⟩:∃X,Hid (cI l w (n.getD k 0)=X):=⟨_,rfl⟩
    rw[HX.out]at bc aT;have U:Hid (V++[X.getD 1 ⟨#[]⟩]=gK l w n (k+1)):=by show _=_;unfold gK;rw[C.out,Ry,HV.out];simp only[List.map_cons,List.map_nil];rw[HX.out];rfl
    have Z:k<A.length:=by omega
    have Q:Hid (B.map (·.L)++[(fQ A k).L.drop 1]=gi w n M (k+1)):=by show _=_;unfold gi;rw[C.out,Ry,HB.out];simp only[List.map_cons,List.map_nil];rw[ct.out k Z];rfl
    go_upto_region 5 with fail
    go_quiet (fail)
    go_upto_region 6 with fail
    obtain⟨W2,ag⟩:∃W2,Hid (wr.drewN nq=W2):=⟨_,rfl⟩
    rw[ag.out];have k2:ab [] wr W2:=by rw[<-ag.out];exact(ab.refl [] wr).drewN nq
    have ai:=hI (z.out.Vb k2);have be:=hI (aT.out W2 (S.out.trans k2));have bl:W2.cell? ⟨gH,k,none⟩=some (.int .i64 (j:Int)):=by rw[Q6 (k2.block gH bz (by simp))];exact bf
    have bo:=QX bz k2.size;clear t0 s0 ch q3 bf co k2 aT
    go_upto_region 7 with (go_at_call 72;refine QU be.out ?_;rintro e w3 ⟨h3,rfl,x3⟩)
    have E:=hI (ai.out.Vb x3.kept);obtain⟨gX,eX,b3,cX⟩:=x3.own.srcX 1 _ (mm X 1 bc);generalize X.getD 1 ⟨#[]⟩=x at *;rw[eX];have cV:(1:Int)<(X.length:Int):=by omega
    have p0:w3.cell? ⟨b.heap.size+1,0,none⟩=some (.slice u.ao V.length u.cap):=by rw[aa E.out.c];rfl
    have p1:=am E.out.c 0;have p2:=ae E.out.c;have cp:=E.out.v;have ca:Hid ((aB V).n<=900000000):=by show V.length<=_;omega
    have b4:Hid ((aB V).n=V.length):=rfl;clear bl bo x3
    go_region_law (refine bH w3 rfl (.tmp 36) (.tmp 40) 61 rfl iS (.string ⟨#[]⟩) 16 u (aB V) [.string x] underlying61 ck b0 br bx rfl Rc (by rw[b4.out];simp[Act.eval]) cp ca.out (by omega) (by simp[Act.eval]) rfl (by simp[Value.oneCell']) ?_;intro ap O w5 aS a2;have c5:=a2.kept.get E.out.c (fun J=>by have:=E.out.fv _ (aN J);omega);have f5:=am c5 0;have d5:w5.cell? ⟨b.heap.size+1,0,none⟩=some (.slice u.ao V.length u.cap):=(by rw[aa c5];rfl);have z5:=ae c5)
    all_goals
     rw[dr]at aS;have d:=hI (E.out.addV (m:=(aB V).n+1) a2 aS (by simp[aB]));obtain⟨X5,bw⟩:∃X5,Hid (w5.setCell ⟨b.heap.size+1,0,none⟩ (.slice ap ((aB V).n+1) O)=X5):=⟨_,rfl⟩
     rw[bw.out]at d ⊢;clear aS a2 c5 f5 d5 z5 p0 p1 p2 bw b3 cX;have cb:=hI d.out.kept;obtain⟨gA,rfl,c9,cc⟩:=cm.sl (cm.Vb HA.out cb.out) k Z;have a1:=hI (b5.out (fQ A k) (jK A k Z));have an:=HN.out (fQ A k) (jK A k Z);have cy:(k:Int)<(A.length:Int):=by omega
     generalize fQ A k=s at *;obtain⟨cl,p,F⟩:=s;obtain⟨N,K,es,-,-⟩:=a1.out.src 0 _ (mm F 0 an);replace es:cl=some ⟨N,K,none⟩:=es;subst es;have cq:=a1.out.le;simp only at cc an cq Q;have p0:X5.cell? ⟨b.heap.size+1,1,none⟩=some (.slice t.ao B.length t.cap):=by rw[aa d.out.c];rfl
     have p1:=am d.out.c 1;have p2:=ae d.out.c;have bd:=d.out.b;have bv:Hid ((lA B).n<=900000000):=by show B.length<=_;omega
     have bT:Hid ((lA B).n=B.length):=rfl;have cE:(1:Int)<=(F.length:Int):=by omega
     have cR:1<=F.length:=an;have c2:1<=p:=by omega
     have c8:(F.length:Int)<=(p:Int):=by omega
     by_cases ba:p=1
     ·subst ba
      have HT:Hid (pr b ⟨some ⟨N,K,none⟩,0,F.drop 1⟩):=by show pr b _;rw[Tz (by omega)];exact pr.none0 (fun e=>by cases e)
      have ax:Hid (([.slice (some ⟨N,K,none⟩) 0 0]:List Value)=Ff ⟨some ⟨N,K,none⟩,0,F.drop 1⟩):=by show _=_;unfold Ff;rw[Tz (by omega)];rfl
      go_upto_region 8 with fail
      go_region_law (refine bH X5 rfl (.tmp 44) (.tmp 50) 218 rfl iL (.slice none 0 0) 24 t (lA B) [.slice (some ⟨N,K,none⟩) 0 0] underlying218 a6 af ac ad rfl Rc (by rw[bT.out];simp[Act.eval]) bd bv.out (by omega) (by simp[Act.eval]) rfl (by simp[Value.oneCell']) ?_;intro az P w6 H G;have Y:=G.kept.get d.out.c (fun J=>by have:=d.out.fb _ (aN J);omega);have f6:=am Y 1;have d6:w6.cell? ⟨b.heap.size+1,1,none⟩=some (.slice t.ao B.length t.cap):=(by rw[aa Y];rfl);have z6:=ae Y)
      all_goals
       rw[ax.out,qw]at H
       have a0:=(show Hid _ from d.out.addB (m:=(lA B).n+1) G H (fun s n=>by
        rcases Rr.1 n with h | h
        ·exact d.out.s s h
        ·rw[Q9.1 h];exact HT.out) (by simp[lA,kU]))
       have ar:Hid ((B++[(⟨some ⟨N,K,none⟩,0,F.drop 1⟩:Sl)]).map (·.L)=gi w n M (k+1)):=by show _=_;rw[Ry];exact Q.out
       clear H G Y;go_wp2
       go_roundg (n.length-(k+1))
       case measure=>omega
       case rel=>exact⟨k+1,V++[x],⟨ap,O⟩,B++[⟨some ⟨N,K,none⟩,0,F.drop 1⟩],⟨az,P⟩,by omega,rfl,by go_num,⟨by simp;omega,by simp;omega⟩,U,ar,a0⟩
     ·have HT:=hI (pr.tail a1.out)
      have ax:Hid (F.length-1=(F.drop 1).length):=by show _=_;simp
      go_upto_region 8 with fail
      go_region_law (refine bH X5 rfl (.tmp 44) (.tmp 50) 218 rfl iL (.slice none 0 0) 24 t (lA B) [.slice (some ⟨N,K+1,none⟩) (F.length-1) (p-1)] underlying218 a6 af ac ad rfl Rc (by rw[bT.out];simp[Act.eval]) bd bv.out (by omega) (by simp[Act.eval]) rfl (by simp[Value.oneCell']) ?_;intro az P w6 H G;have Y:=G.kept.get d.out.c (fun J=>by have:=d.out.fb _ (aN J);omega);have f6:=am Y 1;have d6:w6.cell? ⟨b.heap.size+1,1,none⟩=some (.slice t.ao B.length t.cap):=(by rw[aa Y];rfl);have z6:=ae Y)
      all_goals
       rw[ax.out,show([.slice (some ⟨N,K+1,none⟩) (F.drop 1).length (p-1)]:List Value)=Ff ⟨some ⟨N,K+1,none⟩,p-1,F.drop 1⟩ from rfl,qw]at H
       have a0:=(show Hid _ from d.out.addB (m:=(lA B).n+1) G H (fun s n=>by
        rcases Rr.1 n with h | h
        ·exact d.out.s s h
        ·rw[Q9.1 h];exact HT.out) (by simp[lA,kU]))
       have ar:Hid ((B++[(⟨some ⟨N,K+1,none⟩,p-1,F.drop 1⟩:Sl)]).map (·.L)=gi w n M (k+1)):=by show _=_;rw[Ry];exact Q.out
       clear H G Y;go_wp2
       go_roundg (n.length-(k+1))
       case measure=>omega
       case rel=>exact⟨k+1,V++[x],⟨ap,O⟩,B++[⟨some ⟨N,K+1,none⟩,p-1,F.drop 1⟩],⟨az,P⟩,by omega,rfl,by go_num,⟨by simp;omega,by simp;omega⟩,U,ar,a0⟩
  ·have e:k=n.length:=by omega
   subst e;have cf:¬(n.length:Int)<(n.length:Int):=by omega
   have r0:wr.cell? ⟨b.heap.size,0,none⟩=some (.slice none 0 0):=by rw[aa z.out.r];rfl
   have r1:wr.cell? ⟨b.heap.size,1,none⟩=some (.slice none 0 0):=by rw[aa z.out.r];rfl
   have r2:=am z.out.r 0;have r3:=am z.out.r 1;have c0:wr.cell? ⟨b.heap.size+1,0,none⟩=some (.slice u.ao V.length u.cap):=by rw[aa z.out.c];rfl
   have c1:wr.cell? ⟨b.heap.size+1,1,none⟩=some (.slice t.ao B.length t.cap):=by rw[aa z.out.c];rfl
   have cL:=ae z.out.c;have cz:=ae z.out.r;have a7:Hid (∀q,u.blk=some q->q≠b.heap.size):=fun q J=>by have:=z.out.fv q J;omega
   have b2:Hid (∀q,t.blk=some q->q≠b.heap.size):=fun q J=>by have:=z.out.fb q J;omega
   have a3:Hid (gK l w n n.length=V):=HV.out.symm;go_wp2;obtain⟨x0,x1⟩:=J2 z.out.r (.slice u.ao V.length u.cap) (.slice t.ao B.length t.cap);have kf:ab [] b ((wr.setCell ⟨b.heap.size,0,none⟩ (.slice u.ao V.length u.cap)).setCell ⟨b.heap.size,1,none⟩ (.slice t.ao B.length t.cap)):=(S.out.setCell (QV (by simp)) _).setCell (QV (by simp)) _;exact QY (v:=.agg #[.slice u.ao V.length u.cap,.slice t.ao B.length t.cap]) (by simp[results,results177,go_sem,x0,x1]) rfl ⟨u,t,B,by rw[a3.out],HB.out,z.out.s,by rw[a3.out];exact⟨(z.out.v.Vk a7.out _ _).Vk a7.out _ _,fun q J=>(by have:=z.out.fv q J;omega),kf⟩,⟨(z.out.b.Vk b2.out _ _).Vk b2.out _ _,fun q J=>(by have:=z.out.fb q J;omega),kf⟩⟩
def fO(T:List Tk)(S:List Sm)(hs:List Nat)(k:Nat):List ByteArray:=((hs.take k).filter (fun j=>((au S j).k.toList == [36,102]))).map (fun j=>tS T ((au S j).h+1))
def CJ(p:ByteArray×ByteArray):List Value:=[.string p.1,.string p.2]
theorem LY(p:ByteArray×ByteArray):(CJ p).length=2:=rfl
def lz(L:Fs):dN:=kU 114 2 CJ L
theorem CS(L:Fs)(x:ByteArray×ByteArray):(⟨(lz L).e,(lz L).size,(lz L).n+1,(lz L).xs++CJ x⟩:dN)=lz (L++[x]):=gM _ _ _ _ _
def jY(T:List Tk)(S:List Sm)(a:Nat)(V:List ByteArray)(i m:Nat):Fs:=((List.range m).filter (fun j=>decide (i<j)&&hQ T S (V.getD i ⟨#[]⟩) (V.getD j ⟨#[]⟩) a)).map (fun j=>(V.getD i ⟨#[]⟩,V.getD j ⟨#[]⟩))
def lg(T:List Tk)(S:List Sm)(a:Nat)(V:List ByteArray)(k:Nat):Fs:=(List.range k).flatMap (fun i=>jY T S a V i V.length)
def fH(T:List Tk)(S:List Sm)(a:Nat):Fs:=lg T S a (fO T S (bW T S a) (bW T S a).length) (fO T S (bW T S a) (bW T S a).length).length
theorem CG(h:z2<f):jY l w T d z2 (f+1)=jY l w T d z2 f++(if hQ l w (d.getD z2 ⟨#[]⟩) (d.getD f ⟨#[]⟩) T=true then [(d.getD z2 ⟨#[]⟩,d.getD f ⟨#[]⟩)] else []):=by
 unfold jY;rw[gZ,Ry,SM h,Sv]
 split <;> rfl
theorem CH:jY l w T d f (f+1)=[]:=by
 unfold jY;rw[Th.2 (fun j a=>by have:=Ra.1 a;simp;omega)];rfl
theorem wO:lg l w T d (f+1)=lg l w T d f++jY l w T d f d.length:=by
 unfold lg;rw[R6,Sh];simp
theorem EY:(jY l w T d z2 f).length<=f:=by
 unfold jY;rw[Ri];have:=Sc (fun j=>decide (z2<j)&&hQ l w (d.getD z2 ⟨#[]⟩) (d.getD j ⟨#[]⟩) T) (List.range f);rw[Tf]at this;exact this
theorem ED(h:f<n.length):fO l w n (f+1)=fO l w n f++(if((au w n[f]).k.toList == [36,102])=true then [tS l ((au w n[f]).h+1)] else []):=by
 unfold fO;rw[RG h,RV,Ry]
 congr 1
 cases a:((au w n[f]).k.toList == [36,102])
 ·rw[Ss (by rw[a];simp)];rfl
 ·rw[SG (p:=fun j=>((au w j).k.toList == [36,102])) a];rfl
theorem NA:(prog.info? 114).map (fun i=>(i.zero,i.size,i.bytes))=some (some (.agg #[.string ⟨#[]⟩,.string ⟨#[]⟩]),2,32):=by kernel_rfl
theorem wI(hD:fz S I l o a w z4 T)(ok:nK l w y)(hn:y<w.length)(hE:cU l (au w y).h) :
  Calls prog 64 #[.pointer (some ⟨I,0,none⟩),.int .i64 y] S fun e b=>∃F,e=.returned (.slice F.ao (fH l w y).length F.cap)/\gw S b F (lz (fH l w y)):=by
 have HD:=hI hD;have a7:=hI ok;have c4:=ok.sm;have c8:=ok.tm;have bx:=hI (nP I y l o a w z4 T S hD ok hn hE);have c5:=kj l w y;have cl:=hI (sK l w y);have ch:Hid (fH l w y=lg l w y (fO l w (bW l w y) (bW l w y).length) (fO l w (bW l w y) (bW l w y).length).length):=rfl;obtain⟨iS,cj,b0,bv,bT⟩:=Re js;obtain⟨iP,cy,bg,a5,b1⟩:=Re NA;clear hD ok;generalize bW l w y=c at *;go_enter func64,ntmps64
 go_upto_region 3 with (go_at_call 62;refine QU bx.out ?_;rintro e B ⟨h1,rfl,x1⟩)
 have bz:=hI x1.kept;have b3:=hI x1.own.srcN;have cu:Hid (gw B B ⟨none,0⟩ (aB [])):=⟨QZ _ _ _ _,(by intro k hk;cases hk),ab.refl _ _⟩;clear x1 bx;obtain⟨a1,c1⟩:=h1;have cc:Hid (([]:List ByteArray)=fO l w c 0):=by show _=_;simp[fO]
 go_wp2
 go_loopg [5,7] c.length (fun g a2 i wr=>∃(k:Nat) (F:Hd) (V:List ByteArray),k<=c.length/\g=c.length-k/\a2=.slice F.ao V.length F.cap/\i=.int .i64 k/\V.length<=k/\Hid (V=fO l w c k)/\Hid (gw B wr F (aB V)))
 case atStart=>exact⟨0,⟨none,0⟩,[],by omega,rfl,rfl,rfl,by simp,cc,cu⟩
 case round =>
  obtain⟨k,F,V,hk,hg,rfl,rfl,c3,HV,U⟩:=hrel;have X:=hI (bz.out.trans U.out.kept)
  by_cases W:k<c.length
  ·have cX:(k:Int)<(c.length:Int):=by omega
   have cx:=cl.out c[k] (Rb W);have aT:c[k]<w.length:=by omega
   obtain⟨gH,eH,cz,cH⟩:=b3.out k c[k] (QP W);replace eH:a1=some ⟨gH,0,none⟩:=eH;subst eH;have az:=hI (fz.Vb HD.out bz.out);obtain⟨t0,s0,hb⟩:=az.out.cells;obtain⟨H,rfl,br,-,-,q2,q3⟩:=az.out.s.2 c[k] w[c[k]] (QP aT);have C:=hI (ED l w c k W);rw[<-HV.out,<-bM w c[k] aT]at C;have cb:Hid ((w[c[k]].k.toList == [36,102])=true->w[c[k]].h+1<l.length):=fun h=>by have:=a7.out.f c[k] cx;rw[<-bM w c[k] aT]at this;exact this h
   have df:((c[k]:Nat):Int)<(w.length:Int):=by omega
   have c2:(0:Int)<=((c[k]:Nat):Int):=by omega
   generalize w[c[k]].k=sk at *;generalize w[c[k]].h=z at *;generalize c[k]=j at *
   have ac:Hid (∀b:World,B.heap.size<=b.heap.size->(∀q,q<B.heap.size->b.heap[q]?=B.heap[q]?)->(b.cell? ⟨I,0,none⟩=some (.slice o l.length a)/\b.cell? ⟨I,1,none⟩=some (.slice (some ⟨H,0,none⟩) w.length T)/\b.cell? ⟨gH,k,none⟩=some (.int .i64 (j:Int))/\b.cell? ⟨H,j*4+2,none⟩=some (.int .i64 (z:Int))/\b.cell? ⟨H,j*4+3,none⟩=some (.string sk))/\I<b.heap.size/\H<b.heap.size/\gH<b.heap.size):=fun b hz d =>
    ⟨⟨by rw[Q6 (d I hb)];exact t0,by rw[Q6 (d I hb)];exact s0,by rw[Q6 (d gH cz)];exact cH,by rw[Q6 (d H br)];exact q2,by rw[Q6 (d H br)];exact q3⟩,by omega,by omega,by omega⟩
   clear t0 s0 q2 q3 cH;have cf:Hid (∀q,q<B.heap.size->wr.heap[q]?=B.heap[q]?):=fun q d=>U.out.kept.block q d (by simp)
   obtain⟨⟨t0,s0,cH,q2,q3⟩,bf,P,N⟩:=ac.out wr U.out.kept.size cf.out
   cases h1:(sk.toList == [36,102])
   ·have E:Hid (V=fO l w c (k+1)):=by have:=C.out;rw[h1,QT (by simp),Rl]at this;exact this.symm
    go_upto_region 6 with fail
    go_quiet (fail)
    have r:=hI (U.out.Vb ((ab.refl [] wr).drewN nq));go_wp2
    go_roundg (c.length-(k+1))
    case measure=>omega
    case rel=>exact⟨k+1,F,V,by omega,rfl,rfl,by go_num,by omega,E,r⟩
   ·have E:Hid (V++[tS l (z+1)]=fO l w c (k+1)):=by have:=C.out;rw[h1,QW rfl]at this;exact this.symm
    have cA:=cb.out h1;obtain⟨R,rfl,bo,u0,-⟩:=az.out.t.2 (z+1) _ (iw l (z+1) cA);replace u0:B.cell? ⟨R,(z+1)*5,none⟩=some (.string (tS l (z+1))):=u0;generalize tS l (z+1)=v at *;have bc:Hid (∀b:World,(∀q,q<B.heap.size->b.heap[q]?=B.heap[q]?)->b.cell? ⟨R,(z+1)*5,none⟩=some (.string v)):=fun b d=>by rw[Q6 (d R bo)];exact u0
    have db:(z:Int)+1<(l.length:Int):=by omega
    have cL:IntKind.i64.wrap ((z:Int)+1)=(z:Int)+1:=by rw[R9];omega
    have cV:((z:Int)+1).toNat=z+1:=by omega
    have cP:(0:Int)<=(z:Int)+1:=by omega
    go_upto_region 6 with fail
    go_quiet (fail)
    go_upto_region 7 with fail
    obtain⟨K,a4⟩:∃K,Hid (wr.drewN nq=K):=⟨_,rfl⟩
    rw[a4.out];have k2:ab [] wr K:=by rw[<-a4.out];exact(ab.refl [] wr).drewN nq
    have r:=hI (U.out.Vb k2);have ar:Hid (∀q,q<B.heap.size->K.heap[q]?=B.heap[q]?):=fun q d=>r.out.kept.block q d (by simp)
    clear t0 s0 cH q2 q3 bf P N u0;obtain⟨⟨t0,s0,cH,q2,-⟩,bf,P,N⟩:=ac.out K r.out.kept.size ar.out;have u0:=bc.out K ar.out;have cB:R<K.heap.size:=QX bo r.out.kept.size;have ai:=r.out.own;have b4:Hid ((aB V).n<=900000000):=by show V.length<=_;omega
    have HS:Hid (∀(A:World) (h5:Hd),bt K A F h5->(A.cell? ⟨I,0,none⟩=some (.slice (some ⟨R,0,none⟩) l.length a)/\A.cell? ⟨I,1,none⟩=some (.slice (some ⟨H,0,none⟩) w.length T)/\A.cell? ⟨gH,k,none⟩=some (.int .i64 (j:Int))/\A.cell? ⟨H,j*4+2,none⟩=some (.int .i64 (z:Int))/\A.cell? ⟨R,(z+1)*5,none⟩=some (.string v))):=fun A h5 gr=>by
     have bw:∀q,q<B.heap.size->A.heap[q]?=B.heap[q]?:=fun q d=>by
      rw[gr.kept.block q (QX d r.out.kept.size) (fun hm=>by have:=U.out.far q (aN hm);omega)];exact ar.out q d
     obtain⟨⟨y0,y1,y2,y3,-⟩,-⟩:=ac.out A (Q3 r.out.kept.size gr.kept.size) bw;exact⟨y0,y1,y2,y3,bc.out A bw⟩
    clear k2
    go_region_held3 (fun b=>b.cell? ⟨I,0,none⟩=some (.slice (some ⟨R,0,none⟩) l.length a)/\b.cell? ⟨I,1,none⟩=some (.slice (some ⟨H,0,none⟩) w.length T)/\b.cell? ⟨gH,k,none⟩=some (.int .i64 (j:Int))/\b.cell? ⟨H,j*4+2,none⟩=some (.int .i64 (z:Int))/\b.cell? ⟨R,(z+1)*5,none⟩=some (.string v)) (go_keep) ((refine bH K (by rfl) (.tmp 33) (.tmp 53) 61 (by rfl) iS (.string ⟨#[]⟩) 16 F (aB V) [.string v] underlying61 cj b0 bv bT rfl Rc (by simp[Act.eval] <;> rfl) ai b4.out (by omega) (by simp[Act.eval]) rfl (by simp[Value.oneCell']) ?_;intro b5 a3 A an a0;obtain⟨y0,y1,y2,y3,y4⟩:=HS.out A _ a0))
    rw[dr]at an;have Z:=hI (r.out.Vl a0 an);clear an a0;go_wp2
    go_roundg (c.length-(k+1))
    case measure=>omega
    case rel=>exact⟨k+1,⟨b5,a3⟩,V++[v],by omega,rfl,by simp[aB],by go_num,by simp;omega,E,Z⟩
  ·have e:k=c.length:=by omega
   subst e;have b6:Hid (fH l w y=lg l w y V V.length):=by show _=_;rw[ch.out,HV.out]
   have ag:=hI U.out.own.srcX;have ba:Hid (gw wr wr ⟨none,0⟩ (lz [])):=⟨QZ _ _ _ _,(by intro k hk;cases hk),ab.refl _ _⟩;have co:Hid (([]:Fs)=lg l w y V 0):=by show _=_;simp[lg]
   obtain⟨va,vc⟩:=F;obtain⟨O,al⟩:∃O,Hid (wr=O):=⟨_,rfl⟩
   rw[al.out];rw[al.out]at ag ba X;clear HV U al;go_wp2
   go_loopg [8,9] V.length (fun g a2 i w3=>∃(m:Nat) (h2:Hd) (L:Fs),m<=V.length/\g=V.length-m/\a2=.slice h2.ao L.length h2.cap/\i=.int .i64 m/\L.length<=10000*m/\Hid (L=lg l w y V m)/\Hid (gw O w3 h2 (lz L)))
   case atStart=>exact⟨0,⟨none,0⟩,[],by omega,rfl,rfl,rfl,by simp,co,ba⟩
   case round =>
    obtain⟨m,h2,L,hm,cF,rfl,rfl,hL,HL,a6⟩:=hrel
    by_cases bj:m<V.length
    ·have c0:(m:Int)<(V.length:Int):=by omega
     have cs:Hid (L=lg l w y V m++jY l w y V m (m+1)):=by show _=_;rw[CH,Rl];exact HL.out
     obtain⟨J,eV,bk,ck⟩:=ag.out m _ (mm V m bj);replace eV:va=some ⟨J,0,none⟩:=eV;subst eV;go_wp2
     go_loopg [8,10] (V.length-(m+1)) (fun g a2 i w3=>∃(q:Nat) (Q:Hd) (D:Fs),(m<q/\q<=V.length)/\g=V.length-q/\a2=.slice Q.ao D.length Q.cap/\i=.int .i64 q/\D.length<=10000*m+q/\Hid (D=lg l w y V m++jY l w y V m q)/\Hid (gw O w3 Q (lz D)))
     case atStart=>exact⟨m+1,h2,L,⟨by omega,by omega⟩,rfl,rfl,by go_num,by omega,cs,a6⟩
     case round =>
      obtain⟨q,Q,D,⟨ct,cR⟩,c9,rfl,rfl,c7,ad,G⟩:=hrel
      by_cases bs:q<V.length
      ·have cE:(q:Int)<(V.length:Int):=by omega
       obtain⟨c6,cp,-,bp⟩:=ag.out q _ (mm V q bs)
       cases cp
       have C:=hI (CG l w y V m q ct);have bl:Hid (∀wx,ab [] O wx->Calls prog 94 #[.pointer (some ⟨I,0,none⟩),.string (V.getD m ⟨#[]⟩),.string (V.getD q ⟨#[]⟩),.int .i64 y] wx fun e b=>e=.returned (.bool (hQ l w (V.getD m ⟨#[]⟩) (V.getD q ⟨#[]⟩) y))/\ab [] wx b):=fun wx kx=>vI I y _ _ l o a w z4 T wx (fz.Vb HD.out (X.out.trans kx)) a7.out
       have aS:Hid (∀b:World,O.heap.size<=b.heap.size->(∀q,q<O.heap.size->b.heap[q]?=O.heap[q]?)->b.cell? ⟨J,m,none⟩=some (.string (V.getD m ⟨#[]⟩))/\b.cell? ⟨J,q,none⟩=some (.string (V.getD q ⟨#[]⟩))/\J<b.heap.size):=fun b hz d=>⟨by rw[Q6 (d J bk)];exact ck,by rw[Q6 (d J bk)];exact bp,by omega⟩
       generalize V.getD m ⟨#[]⟩=x at *;generalize V.getD q ⟨#[]⟩=M at *;obtain⟨ap,b2⟩:∃ap,Hid (hQ l w x M y=ap):=⟨_,rfl⟩
       rw[b2.out]at bl C;clear bp;obtain⟨v0,v1,be⟩:=aS.out wr G.out.kept.size (fun q d=>G.out.kept.block q d (by simp))
       go_upto_region 15 with fail
       go_region_with (go_at_call 94;refine(bl.out _ (by exact G.out.kept.drew)).mono ?_;rintro e A ⟨rfl,k5⟩)
       all_goals
        have k6:ab [] wr A:=((ab.refl [] wr).drew).trans k5;have n:=hI (G.out.Vb k6);clear k5 k6 v0 v1 be
        cases ap
        ·have E:Hid (D=lg l w y V m++jY l w y V m (q+1)):=by show _=_;rw[C.out,QT (by simp),Rl];exact ad.out
         go_wp2
         go_roundg (V.length-(q+1))
         case measure=>omega
         case rel=>exact⟨q+1,Q,D,⟨by omega,by omega⟩,rfl,rfl,by go_num,by omega,E,n⟩
        ·have E:Hid (D++[(x,M)]=lg l w y V m++jY l w y V m (q+1)):=by show _=_;rw[C.out,QW rfl,ad.out,Sy]
         go_upto_region 17 with fail
         obtain⟨v0,v1,be⟩:=aS.out A n.out.kept.size (fun q d=>n.out.kept.block q d (by simp));have ai:=n.out.own;have ca:Hid ((lz D).n<=900000000):=by show D.length<=_;omega
         have s3:Hid (∀u∈([.string x,.string M]:List Value),u.oneCell'=true):=by intro u hu;simp only[List.mem_cons,List.not_mem_nil,or_false]at hu;rcases hu with rfl | rfl <;> rfl
         have HS:Hid (∀(Y:World) (h6:Hd),bt A Y Q h6->Y.cell? ⟨J,m,none⟩=some (.string x)/\Y.cell? ⟨J,q,none⟩=some (.string M)):=fun Y h6 gr=>by
          obtain⟨y0,y1,-⟩:=aS.out Y (Q3 n.out.kept.size gr.kept.size) (fun p hp=>by
           rw[gr.kept.block p (QX hp n.out.kept.size) (fun hm=>by have:=n.out.far p (aN hm);omega)];exact n.out.kept.block p hp (by simp))
          exact⟨y0,y1⟩
         go_region_held3 (fun b=>b.cell? ⟨J,m,none⟩=some (.string x)/\b.cell? ⟨J,q,none⟩=some (.string M)) (go_keep) ((refine bH A (by rfl) (.tmp 81) (.tmp 91) 111 (by rfl) iP (.agg #[.string ⟨#[]⟩,.string ⟨#[]⟩]) 32 Q (lz D) [.string x,.string M] underlying111 cy bg a5 b1 rfl Uq (by simp[Act.eval] <;> rfl) ai ca.out (by omega) (by simp[Act.eval]) rfl s3.out ?_;intro cq bd Y ax af;obtain⟨y0,y1⟩:=HS.out Y _ af))
         rw[show([.string x,.string M]:List Value)=CJ (x,M) from rfl,CS]at ax;have Z:=hI (n.out.Vl af ax);clear ax af;go_wp2
         go_roundg (V.length-(q+1))
         case measure=>omega
         case rel=>exact⟨q+1,⟨cq,bd⟩,D++[(x,M)],⟨by omega,by omega⟩,rfl,by simp[lz,kU],by go_num,by simp;omega,E,Z⟩
      ·have eq:q=V.length:=by omega
       subst eq;have E:Hid (D=lg l w y V (m+1)):=by show _=_;rw[wO];exact ad.out
       go_wp2
       go_roundg (V.length-(m+1))
       case measure=>omega
       case rel=>exact⟨m+1,Q,D,by omega,rfl,rfl,by go_num,by omega,E,G⟩
    ·have e:m=V.length:=by omega
     subst e;have E:Hid (fH l w y=L):=by show _=_;rw[b6.out,HL.out]
     go_wp2;go_ret;exact⟨h2,by rw[E.out];rfl,by rw[E.out];exact a6.out.base X.out⟩
end Go.Proofs.YtpddjjabfbfifaaGreat
