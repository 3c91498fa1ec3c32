import Derived.Deep.RegionHeld3
import Derived.Laws.OwnMore
import Derived.BigQuiet
import Derived.Test.YtpddjjabfbfifaaGreatG12
namespace Go.Proofs.YtpddjjabfbfifaaGreat
open Go.RowKit Tryz
set_option maxRecDepth 100000
set_option maxHeartbeats 40000000
variable{x:List Tk}{S:List Sm}{y:ByteArray}{L z6:Nat}{d N z0:World}{M z1:Hd}{y3:Array Oper}{y4:List Oper}{zb:Oper}{zt:Act}{y5:Exit->Act->World->Prop}{z4:Option Addr}{z3:List ByteArray}{z7:dN}{y1:List Nat}(i f:Nat)(o H:ByteArray)(g:List ByteArray)(l:Nat)(b:List Tk)(I:Option Addr)(k:Nat)(w:List Sm)(a:Option Addr)(v:Nat)(n:World)(y0:ByteArray)(D:Nat)(z2:Sm)(T:Nat)
def tU(T:List Tk)(S:List Sm)(v:ByteArray)(n j:Nat):Bool:=((au S j).k.toList == [36,102])&&(((tS T ((au S j).h+1)).toList==v.toList)&&aV S j n)
def gg(T:List Tk)(S:List Sm)(v:ByteArray)(n:Nat):Int:=match (List.range n).find? (tU T S v n) with
 | some j=>j
 | none=>-1
theorem Il(b:z6<L)(h:tU x S y L z6=true)(c:∀j,j<z6->tU x S y L j=false):gg x S y L=z6:=by
 have e:(List.range L).find? (tU x S y L)=some z6:=by
  rw[Si];exact⟨h,Q9.2 b,fun j a=>by rw[c j a];rfl⟩
 unfold gg;rw[e]
theorem Lg(b:∀j,j<L->tU x S y L j=false):gg x S y L=-1:=by
 have e:(List.range L).find? (tU x S y L)=none:=by
  rw[Sj];intro j a;rw[b j (Q9.1 a)];simp
 unfold gg;rw[e]
theorem Ii(P:fz n i b I k w a v)(N:il b w f)(hf:∀j,j<f->((au w j).k.toList == [36,102])=true->(au w j).h+1<b.length) :
  Calls prog 174 #[.pointer (some ⟨i,0,none⟩),.string H,.int .i64 f] n fun e L=>e=.returned (.int .i64 (gg b w H f))/\ab [] n L:=by
 have Q:=hI P;have U:=N.m;have hS:=N.s;have hT:=N.t;clear P;go_enter func174,ntmps174;go_wp2
 go_loopg [7] f (fun g Y wr=>∃c:Nat,c<=f/\g=f-c/\Y=.int .i64 c/\Hid (∀j,j<c->tU b w H f j=false)/\Hid (ab [] n wr))
 case atStart=>exact⟨0,by omega,rfl,rfl,(fun j hj=>by omega),ab.refl _ _⟩
 case round =>
  obtain⟨c,hk,hg,rfl,A,D⟩:=hrel
  by_cases C:c<f
  ·have q:c<w.length:=by omega
   have r:=hI (fz.Va Q.out D.out);obtain⟨c0,c1,hb⟩:=r.out.cells;obtain⟨gs,rfl,ad,-,-,S,q3⟩:=r.out.s.2 c w[c] (QO q);have af:(c:Int)<(f:Int):=by omega
   have O:(c:Int)<(w.length:Int):=by omega
   have u:Hid (tU b w H f c=((w[c].k.toList == [36,102])&&(((tS b (w[c].h+1)).toList==H.toList)&&aV w c f))):=by show _=_;unfold tU;rw[bM w c q]
   have R:Hid ((w[c].k.toList == [36,102])=true->w[c].h+1<b.length):=by have:=hf c C;rw[<-bM w c q]at this;exact this
   have E:Hid (∀B,ab [] n B->Calls prog 92 #[.pointer (some ⟨i,0,none⟩),.int .i64 c,.int .i64 f] B fun e L=>e=.returned (.bool (aV w c f))/\L=B):=fun B kx=>lj i c f b I k w _ v B (fz.Va Q.out kx) (by omega) U hS
   generalize w[c]=s at *;obtain⟨sa,sz,l,sk⟩:=s;simp only at S q3 u R;obtain⟨F,M⟩:∃F,Hid (aV w c f=F):=⟨_,rfl⟩
   rw[M.out]at u E
   cases z:(sk.toList == [36,102])
   ·have p:=hI (dU A.out (by rw[u.out,z];rfl))
    go_upto_region 4 with fail
    go_region
    all_goals
     have d:=hI D.out.drew;go_wp2
     go_roundg (f-(c+1))
     case measure=>omega
     case rel=>exact⟨c+1,by omega,rfl,by go_num,p,d⟩
   ·have J:=R.out z
    obtain⟨Z,rfl,ag,K,-⟩:=r.out.t.2 (l+1) _ (iw b (l+1) J);replace K:wr.cell? ⟨Z,(l+1)*5,none⟩=some (.string (tS b (l+1))):=K;obtain⟨y,V⟩:∃y,Hid (tS b (l+1)=y):=⟨_,rfl⟩
    rw[V.out]at K u;have X:(l:Int)+1<(b.length:Int):=by omega
    have W:IntKind.i64.wrap ((l:Int)+1)=(l:Int)+1:=by rw[R8];omega
    have T:((l:Int)+1).toNat=l+1:=by omega
    have ai:(0:Int)<=(l:Int)+1:=by omega
    cases G:(y.toList==H.toList)
    ·have p:=hI (dU A.out (by rw[u.out,z,G];rfl))
     go_upto_region 4 with fail
     go_region
     all_goals
      have d:=hI D.out.drew;go_wp2
      go_roundg (f-(c+1))
      case measure=>omega
      case rel=>exact⟨c+1,by omega,rfl,by go_num,p,d⟩
    ·go_upto_region 4 with fail
     go_region
     all_goals
      have d:=hI D.out.drew;have x:=hI (E.out wr.drew d.out)
     cases F
     ·have p:=hI (dU A.out (by rw[u.out,z,G];rfl))
      go_wp2_with (go_at_call 92;refine QT x.out ?_;rintro e w9 ⟨rfl,o⟩;rw[o];clear o)
      go_roundg (f-(c+1))
      case measure=>omega
      case rel=>exact⟨c+1,by omega,rfl,by go_num,p,d⟩
     ·have p:Hid (gg b w H f=c):=Il C (by rw[u.out,z,G];rfl) A.out
      go_wp2_with (go_at_call 92;refine QT x.out ?_;rintro e w9 ⟨rfl,o⟩;rw[o];clear o);go_ret;exact⟨QM p.out.symm,d.out⟩
  ·have p:Hid (gg b w H f=-1):=Lg (fun j hj=>A.out j (by omega))
   go_wp2;go_ret;exact⟨QM p.out.symm,D.out⟩
def l6(T:List Tk)(S:List Sm)(n:Nat):Prop:=∀j,j<n->((au S j).k.toList == [36,102])=true->(au S j).h+1<T.length
def jm(T:List Tk)(S:List Sm)(key x:ByteArray)(n:Nat)(before:List ByteArray):Int :=
 if(key.toList == [36,100])=true then(if kV T S x n=false then 18 else if aJ before x=true then 19 else 0)
 else if(before.length==0)=true then(if eF T S x n=false then 17 else 0)
 else if(key.toList == [36,102])=true then(if 1<before.length then 16 else if kV T S x n=false then 18 else if 0<=gg T S x n then 20 else 0)
 else if eF T S x n=true then 0 else if kV T S x n=false then 21 else if gg T S x n<0 then 22 else 0
theorem Fl(d:List Tk)(x:Option Addr)(I:Nat)(S:List Sm)(u:Option Addr)(N:Nat)(w:World)(K:fz w i d x I S u N)(z:il d S f)(hf:l6 d S f)(U:ge w a g)(ac:g.length<=1000000) :
  Calls prog 126 #[.pointer (some ⟨i,0,none⟩),.string o,.string H,.int .i64 f,.slice a g.length T] w fun e C=>e=.returned (.int .i64 (jm d S o H f g))/\ab [] w C:=by
 have V:=hI (tL i f H d x I S u N w K z.m z.s z.t z.c);have L:Hid (∀j,ab [] w j->Calls prog 173 #[.pointer (some ⟨i,0,none⟩),.string H,.int .i64 f] j fun e C=>e=.returned (.bool (kV d S H f))/\ab [] j C):=fun j k=>AG i f H d x I S u N j (K.Va k) z.m z.s z.t z.v
 have J:Hid (∀j,ab [] w j->Calls prog 174 #[.pointer (some ⟨i,0,none⟩),.string H,.int .i64 f] j fun e C=>e=.returned (.int .i64 (gg d S H f))/\ab [] j C):=fun j k=>Ii i f H d x I S u N j (K.Va k) z hf
 have F:Hid (∀j,ab [] w j->Calls prog 93 #[.slice a g.length T,.string H] j fun e C=>e=.returned (.bool (aJ g H))/\C=j):=fun j k=>j9 g a T H j (fun ad y Z=>by
  obtain⟨X,e,Y,c⟩:=U ad y Z;exact⟨X,e,QW Y k.size,by rw[Q5 (k.block X Y (by simp))];exact c⟩) (by omega)
 have q:Hid (jm d S o H f g=if(o.toList == [36,100])=true then(if kV d S H f=false then 18 else if aJ g H=true then 19 else 0)
  else if(g.length==0)=true then(if eF d S H f=false then 17 else 0)
  else if(o.toList == [36,102])=true then(if 1<g.length then 16 else if kV d S H f=false then 18 else if 0<=gg d S H f then 20 else 0)
  else if eF d S H f=true then 0 else if kV d S H f=false then 21 else if gg d S H f<0 then 22 else 0):=rfl
 generalize jm d S o H f g=R at *;generalize aJ g H=ag at *;generalize gg d S H f=D at *;generalize eF d S H f=c at *;generalize kV d S H f=v at *;generalize g.length=p at *;clear K U;go_enter func126,ntmps126
 go_upto_region 3 with (go_at_call 172;refine QT V.out ?_;rintro e w3 ⟨rfl,M⟩)
 have L:=hI (L.out w3 M)
 go_upto_region 4 with (go_at_call 173;refine QT L.out ?_;rintro e w4 ⟨rfl,O⟩)
 have J:=hI (J.out w4 (M.trans O))
 go_upto_region 5 with (go_at_call 174;refine QT J.out ?_;rintro e w5 ⟨rfl,W⟩)
 have l:=(show Hid _ from(M.trans O).trans W);have F:=hI (F.out w5 l.out)
 go_upto_region 6 with (go_at_call 93;refine QT F.out ?_;rintro e w9 ⟨rfl,E⟩;rw[E];clear E)
 clear V L J F M O W
 cases n:(o.toList == [36,100])
 ·by_cases r:p=0
  ·have P:((p:Int)==0)=true:=by simpa using r
   cases c
   ·have b:Hid (R=17):=by show _=_;rw[q.out];simp[n,r]
    go_wp2;go_ret;exact⟨QM b.out.symm,l.out⟩
   ·have b:Hid (R=0):=by show _=_;rw[q.out];simp[n,r]
    go_wp2;go_ret;exact⟨QM b.out.symm,l.out⟩
  ·have P:((p:Int)==0)=false:=by simpa using r
   cases A:(o.toList == [36,102])
   ·cases c
    ·cases v
     ·have b:Hid (R=21):=by show _=_;rw[q.out];simp[n,r,A]
      go_wp2;go_ret;exact⟨QM b.out.symm,l.out⟩
     ·by_cases h:D<0
      ·have B:D<0:=h
       have b:Hid (R=22):=by show _=_;rw[q.out];simp[n,r,A,h]
       go_wp2;go_ret;exact⟨QM b.out.symm,l.out⟩
      ·have B:¬D<0:=h
       have b:Hid (R=0):=by show _=_;rw[q.out];simp[n,r,A,h]
       go_wp2;go_ret;exact⟨QM b.out.symm,l.out⟩
    ·have b:Hid (R=0):=by show _=_;rw[q.out];simp[n,r,A]
     go_wp2;go_ret;exact⟨QM b.out.symm,l.out⟩
   ·by_cases G:1<p
    ·have Q:(1:Int)<(p:Int):=by omega
     have b:Hid (R=16):=by show _=_;rw[q.out];simp[n,r,A,G]
     go_wp2;go_ret;exact⟨QM b.out.symm,l.out⟩
    ·have Q:¬(1:Int)<(p:Int):=by omega
     cases v
     ·have b:Hid (R=18):=by show _=_;rw[q.out];simp[n,r,A,G]
      go_wp2;go_ret;exact⟨QM b.out.symm,l.out⟩
     ·by_cases h:0<=D
      ·have B:0<=D:=h
       have b:Hid (R=20):=by show _=_;rw[q.out];simp[n,r,A,G,h]
       go_wp2;go_ret;exact⟨QM b.out.symm,l.out⟩
      ·have B:¬0<=D:=h
       have b:Hid (R=0):=by show _=_;rw[q.out];simp[n,r,A,G,h]
       go_wp2;go_ret;exact⟨QM b.out.symm,l.out⟩
 ·cases v
  ·have b:Hid (R=18):=by show _=_;rw[q.out];simp[n]
   go_wp2;go_ret;exact⟨QM b.out.symm,l.out⟩
  ·cases ag
   ·have b:Hid (R=0):=by show _=_;rw[q.out];simp[n]
    go_wp2;go_ret;exact⟨QM b.out.symm,l.out⟩
   ·have b:Hid (R=19):=by show _=_;rw[q.out];simp[n]
    go_wp2;go_ret;exact⟨QM b.out.symm,l.out⟩
def Fe(s:Sm):List Value:=[.int .i64 s.a,.int .i64 s.z,.int .i64 s.h,.string s.k]
def PE(L:List Sm):List Value:=L.flatMap Fe
def ti(L:List Sm):dN:=⟨145,4,L.length,PE L⟩
theorem Ps(h:w[D]?=some z2)(c:Nat)(d:c<4):(PE w)[D*4+c]?=(Fe z2)[c]?:=by
 induction w generalizing D with
 | nil=>cases h
 | cons a w b =>
  have e:PE (a :: w)=Fe a++PE w:=rfl
  cases D with
  | zero =>
   simp at h;subst h;rw[e,Q6 (by simp[Fe];omega)];simp
  | succ D =>
   rw[e,Q4 (by simp[Fe];omega),show(D+1)*4+c-(Fe a).length=D*4+c by simp[Fe];omega];exact b D (by simpa using h)
theorem JB:(⟨(ti w).e,(ti w).size,(ti w).n+1,(ti w).xs++Fe z2⟩:dN)=ti (w++[z2]):=by
 simp[ti,PE]
theorem aw.srcS(o:aw d M (ti S)):AY d M.ao M.cap S:=by
 refine⟨?_,fun k t b=>?_⟩
 ·rcases o.ways with ⟨e,f,_⟩ | ⟨g,m,p,q,l,-⟩
  ·have f:S.length=0:=f
   omega
  ·exact l
 ·have n:=(Q7.1 b).1
  obtain⟨g,a,j,-⟩:=qo o (show 0<S.length by omega);have e:∀c,c<4->∀u,(Fe t)[c]?=some u->d.cell? ⟨g,k*4+c,none⟩=some u:=fun c h u i=>o.cell a (k*4+c) u (by show(PE S)[k*4+c]?=some u;rw[Ps S k t b c h];exact i)
  exact⟨g,a,j,e 0 (by omega) _ rfl,e 1 (by omega) _ rfl,e 2 (by omega) _ rfl,e 3 (by omega) _ rfl⟩
theorem OZ:(prog.info? 145).map (fun i=>(i.zero,i.size,i.bytes))=some (some (.agg #[.int .i64 0,.int .i64 0,.int .i64 0,.string ⟨#[]⟩]),4,40):=by kernel_rfl
theorem uv(A:zb.guard=none)(s x:Operand)(i:zb.op=Op.call { callee:=Callee.builtin Builtin.append,args:=#[s,x],argTypes:=#[139,139] })(h:Hd)(L:List Sm)(t:Sm)(C:zt.eval s=.slice h.ao L.length h.cap)(d:aw n h (ti L))(E:L.length<=1000000)(D:zt.eval x=.slice (some ⟨n.heap.size,0,none⟩) 1 1)(z:∀e k,aw k e (ti (L++[t]))->bt n k h e->wpList prog y3 y5 y4 (zt.put zb.dst (.slice e.ao (L.length+1) e.cap)) k) :
  wpList prog y3 y5 (zb :: y4) zt (n.alloc (.cells (Fe t).toArray 145)):=by
 obtain⟨v,w,f,g,l⟩:=Rd OZ;have o:ab [] n (n.alloc (.cells (Fe t).toArray 145)):=(ab.refl [] _).alloc _;have q:(n.alloc (.cells (Fe t).toArray 145)).heap[n.heap.size]?=some (.cells (Fe t).toArray 145 (0,0)):=QR _ _;refine aM _ A s x 139 i v (.agg #[.int .i64 0,.int .i64 0,.int .i64 0,.string ⟨#[]⟩]) 40 h (ti L) underlying139 w f g l rfl (show 0<4 by omega) C (d.Va o) ⟨n.heap.size,0,none⟩ 1 1 (Fe t) D rfl ?_ ?_ Rb (by simp only[ti];unfold maxLen;omega) (by simp only[ti];omega) ?_
 ·intro j u B
  rw[bL,aa q];simpa using B
 ·intro u p
  simp only[Fe,Ri,RN,SO]at p
  rcases p with rfl | rfl | rfl | rfl <;> rfl
 ·intro y a r b c m
  rw[JB]at b;exact z ⟨some ⟨y,0,none⟩,a⟩ r b ((bt.Va o).trans (bt.made c m))
def eO(T:List Tk):Nat->List Sm×Nat
 | 0=>([],0)
 | i+1=>if bS (tS T i)=true then((eO T i).1++[⟨(eO T i).2,i+1,(ew T (eO T i).2).2,(ew T (eO T i).2).1⟩],i+1) else eO T i
def aj(T:List Tk):List Sm:=(eO T T.length).1
theorem LJ:(eO b T).2<=T:=by
 induction T with
 | zero=>exact QQ _
 | succ T a =>
  rw[eO]
  split
  ·exact QQ _
  ·omega
theorem oF:(eO b T).1.length<=T:=by
 induction T with
 | zero=>exact QQ _
 | succ T a =>
  rw[eO]
  split
  ·simp;omega
  ·omega
structure PQ(w wr:World)(T:List Tk)(aoT:Option Addr)(cT:Nat)(S:List Sm)(h:Hd):Prop where
 d:wr.heap[w.heap.size]?=some (.cells #[.slice aoT T.length cT,.slice h.ao S.length h.cap] 141 (0,0))
 own:aw wr h (ti S)
 far:∀k,h.blk=some k->w.heap.size<k
 kept:ab [] w wr
theorem PQ.add{h:List Sm}(a:PQ d N x z4 L S M)(o:aw z0 z1 (ti h))(g:bt N z0 M z1):PQ d (z0.setCell ⟨d.heap.size,1,none⟩ (.slice z1.ao h.length z1.cap)) x z4 L h z1:=by
 have m:=ae a.d;have i:=g.kept.get a.d (fun c=>by have:=a.far _ (aN c);omega)
 have b:∀k,z1.blk=some k->d.heap.size<k:=fun k f=>by
  rcases g.blk with e | ⟨q,e,c⟩
  ·exact a.far k (by rw[<-e];exact f)
  ·rw[e]at f;cases f;omega
 have j:ab [d.heap.size] z0 (z0.setCell ⟨d.heap.size,1,none⟩ (.slice z1.ao h.length z1.cap)):=(ab.refl _ _).setCell (Q0 (by simp)) _;have l:ab [] d z0:=⟨g.kept.os.trans a.kept.os,g.kept.tape.trans a.kept.tape,g.kept.output.trans a.kept.output,Q1 a.kept.size g.kept.size,fun k f _=>by rw[g.kept.block k (QW f a.kept.size) (fun c=>by have:=a.far _ (aN c);omega),a.kept.block k f (by simp)]⟩;exact⟨by rw[ah i];rfl,o.Vf (fun q c=>j.block q (o.lt c) (by simp;have:=b q c;omega)),b,l.setCell (QU (by simp)) _⟩
theorem LI(I:li n a v b)(W:b.length<=100000)(hs:∀i,(tS b i).size<=1073741824) :
  Calls prog 55 #[.slice a b.length v] n fun e G=>e=.returned (.pointer (some ⟨n.heap.size,0,none⟩))/\∃p cS,fz G n.heap.size b a v (aj b) p cS/\ab [] n G/\∀g,p=some ⟨g,0,none⟩->n.heap.size<=g/\g<G.heap.size:=by
 have X:Hid (PQ n (n.alloc (.cells #[.slice a b.length v,.slice none 0 0] 141)) b a v [] ⟨none,0⟩):=⟨QR _ _,QY _ _ _ _,(by intro k L;cases L),(ab.refl [] _).alloc _⟩;have O:=hI I;have R:=I.1;clear I;go_enter func55,ntmps55;go_wp2
 go_loopg [4,5] b.length (fun g f i wr=>∃(k l:Nat) (S:List Sm) (h:Hd),k<=b.length/\g=b.length-k/\f=.int .i64 l/\i=.int .i64 k/\(l<=k/\S.length<=k)/\Hid (eO b k=(S,l))/\Hid (PQ n wr b a v S h))
 case atStart=>exact⟨0,0,[],⟨none,0⟩,by omega,rfl,rfl,rfl,⟨by omega,by simp⟩,rfl,X⟩
 case round =>
  obtain⟨k,l,S,h,L,hg,rfl,rfl,⟨hf,ac⟩,M,j⟩:=hrel
  by_cases C:k<b.length
  ·have t:=hI (li.Va O.out j.out.kept)
   obtain⟨B,rfl,af,D,-⟩:=t.out.2 k _ (iw b k C);replace D:wr.cell? ⟨B,k*5,none⟩=some (.string (tS b k)):=D;have ad:(k:Int)<(b.length:Int):=by omega
   have s:Hid (eO b (k+1)=if bS (tS b k)=true then(S++[⟨l,k+1,(ew b l).2,(ew b l).1⟩],k+1) else(S,l)):=by show _=_;rw[eO,M.out]
   obtain⟨x,Y⟩:∃x,Hid (tS b k=x):=⟨_,rfl⟩
   rw[Y.out]at D s;have F:Hid (fz wr n.heap.size b (some ⟨B,0,none⟩) v S h.ao h.cap):=⟨j.out.d,t.out,j.out.own.srcS⟩;have q:=hI (Gn n.heap.size l b (some ⟨B,0,none⟩) v S h.ao h.cap wr F.out (by omega) W hs);obtain⟨A,w⟩:∃A,Hid (ew b l=A):=⟨_,rfl⟩
   rw[w.out]at q s;obtain⟨z,H⟩:=A;have c1:wr.cell? ⟨n.heap.size,1,none⟩=some (.slice h.ao S.length h.cap):=by rw[aa j.out.d];rfl
   have hz:=ae j.out.d;have K:=j.out.own;obtain⟨y,o⟩:∃y,Hid (bS x=y):=⟨_,rfl⟩
   rw[o.out]at s
   cases y
   ·have E:Hid (eO b (k+1)=(S,l)):=by show _=_;rw[s.out,QS (by simp)]
    go_wp2_with (go_at_call 84;refine(tQ x _).mono ?_;rintro e P ⟨rfl,c⟩;rw[c,o.out];clear c)
    go_roundg (b.length-(k+1))
    case measure=>omega
    case rel=>exact⟨k+1,l,S,h,by omega,rfl,rfl,by go_num,⟨by omega,by omega⟩,E,j⟩
   ·have E:Hid (eO b (k+1)=(S++[⟨l,k+1,H,z⟩],k+1)):=by show _=_;rw[s.out,QV rfl]
    have J:((k+1:Nat):Int)=(k:Int)+1:=by omega
    go_upto_region 9 with (first | (go_at_call 84;refine(tQ x _).mono ?_;rintro e P ⟨rfl,c⟩;rw[c,o.out];clear c) | (go_at_call 85;refine QT q.out ?_;rintro e P ⟨rfl,c⟩;rw[c];clear c))
    go_wp2_with (at_builtin;rw[<-J];refine uv _ rfl (.tmp 35) (.tmp 42) rfl h S ⟨l,k+1,H,z⟩ rfl K (by omega) rfl ?_;intro V U r m;have Q:=hI (j.out.add r m);have u:=m.kept.get j.out.d (fun Z=>by have:=j.out.far _ (aN Z);omega);have f5:=am u 1;have e5:U.cell? ⟨n.heap.size,1,none⟩=some (.slice h.ao S.length h.cap):=(by rw[aa u];rfl);have z5:=ae u;clear r m u);rw[QZ]at Q
    go_roundg (b.length-(k+1))
    case measure=>omega
    case rel=>exact⟨k+1,k+1,S++[⟨l,k+1,H,z⟩],V,by omega,rfl,by go_num,by go_num,⟨by omega,by simp;omega⟩,E,Q⟩
  ·have e:k=b.length:=by omega
   subst e;have HE:Hid (aj b=S):=by show _=_;unfold aj;rw[M.out]
   go_wp2;go_ret;exact⟨rfl,h.ao,h.cap,by rw[HE.out];exact⟨j.out.d,li.Va O.out j.out.kept,j.out.own.srcS⟩,j.out.kept,fun g T=>have N:h.blk=some g:=(by unfold Hd.blk;rw[T];rfl);⟨RK (j.out.far g N),j.out.own.lt N⟩⟩
def nr(i:Nat):List Sm->Nat
 | []=>0
 | s :: r=>if s.z<=i then nr i r+1 else 0
def i8(S:List Sm)(i:Nat):Nat:=nr i S
def kt(S:List Sm)(n:Nat):Nat:=if 0<n then(au S (n-1)).z else 0
def fa(T:List Tk)(h i:Nat):List ByteArray:=((T.drop h).take (i-h)).map (·.s)
theorem Bc(f:D<=T)(a:T<b.length):fa b D (T+1)=fa b D T++[tS b T]:=by
 unfold fa;have e:T+1-D=(T-D)+1:=by omega
 have c:T-D<(b.drop D).length:=by rw[RQ];omega
 rw[e,RC c,Rx];have d:(b.drop D)[T-D]=b[T]:=by rw[TH];congr 1;omega
 rw[d];unfold tS;rw[QP,QO a];rfl
theorem OP:nr k w<=w.length:=by
 induction w with
 | nil=>exact QQ _
 | cons s r a=>rw[nr];split <;> simp;omega
theorem Bm(h:T<nr k w):∃s,w[T]?=some s/\s.z<=k:=by
 induction w generalizing T with
 | nil=>simp[nr]at h
 | cons s r a =>
  rw[nr]at h
  split at h
  ·cases T with
   | zero=>exact⟨s,rfl,by assumption⟩
   | succ T=>exact a T (by omega)
  ·omega
theorem KJ:kt w (i8 w T)<=T:=by
 unfold kt
 split
 ·next h =>
  obtain⟨s,a,b⟩:=Bm T w (i8 w T-1) (by unfold i8 at h ⊢;omega);unfold au;rw[QP,a];exact b
 ·omega
def lV(T:List Tk)(S:List Sm)(key x:ByteArray)(n:Nat)(before:List ByteArray):Int :=
 if(x.toList == [36,46])=true then ip key before
 else if((x.toList == [36,61])&&((key.toList == [36,112]) && !(aJ before ⟨#[36,61]⟩)))=true then(if before.length=0 then 15 else 0)
 else if ii x ⟨#[36]⟩=true then 8
 else if aJ before ⟨#[36,61]⟩=true then 0
 else if((key.toList == [36,99])||(key.toList == [36,118]))=true then jW T S x n (key.toList == [36,99]) before
 else jm T S key x n before
def bh(T:List Tk)(S:List Sm)(i:Nat):Int :=
 if i=kt S (i8 S i) then dw T S (tS T i) (i8 S i)
 else if i<(ew T (kt S (i8 S i))).2 then(if(aC (tS T i)||aG (tS T i))=true then 0 else 14)
 else lV T S (ew T (kt S (i8 S i))).1 (tS T i) (i8 S i) (fa T (ew T (kt S (i8 S i))).2 i)
theorem Bh(Z:fz n f b I k w a v)(hi:l<b.length)(U:il b w (i8 w l))(hf:l6 b w (i8 w l))(hs:∀l,(tS b l).size<=1073741824) :
  Calls prog 86 #[.pointer (some ⟨f,0,none⟩),.int .i64 l] n fun e w'=>e=.returned (.int .i64 (bh b w l))/\ab [] n w':=by
 have HD:=hI Z;have hT:=U.t;have co:=U.s;obtain⟨c0,c1,hb⟩:=Z.cells;obtain⟨X,rfl,ck,t0,-⟩:=Z.t.2 l _ (iw b l hi);replace t0:n.cell? ⟨X,l*5,none⟩=some (.string (tS b l)):=t0;have cb:(l:Int)<(b.length:Int):=by omega
 have J:=hI (DZ f (i8 w l) (tS b l) b (some ⟨X,0,none⟩) k w a v n Z U (hs l));have aT:=KJ w l;have A:=hI (Gn f (kt w (i8 w l)) b (some ⟨X,0,none⟩) k w a v n Z (by omega) hT hs)
 have i:Hid (bh b w l=if l=kt w (i8 w l) then dw b w (tS b l) (i8 w l)
  else if l<(ew b (kt w (i8 w l))).2 then(if(aC (tS b l)||aG (tS b l))=true then 0 else 14)
  else lV b w (ew b (kt w (i8 w l))).1 (tS b l) (i8 w l) (fa b (ew b (kt w (i8 w l))).2 l)):=rfl
 have a7:=hs l;have HB:Hid (kt w (i8 w l)=if 0<i8 w l then(au w (i8 w l-1)).z else 0):=rfl;obtain⟨x,Hx⟩:∃x,Hid (tS b l=x):=⟨_,rfl⟩
 rw[Hx.out]at t0 J i a7;obtain⟨M,Hn⟩:∃M,Hid (i8 w l=M):=⟨_,rfl⟩
 have bv:Hid (M=nr l w):=Hn.out.symm;rw[Hn.out]at J A i HB aT U hf;obtain⟨P,be⟩:∃P,Hid (kt w M=P):=⟨_,rfl⟩
 rw[be.out]at A i HB aT;obtain⟨kw,a5⟩:∃kw,Hid (ew b P=kw):=⟨_,rfl⟩
 rw[a5.out]at A i;obtain⟨r,H⟩:=kw;simp only at A i;have b6:M<=w.length:=U.m;clear Z;go_enter func86,ntmps86;go_wp2
 go_loopg [5] w.length (fun g o wr=>∃c:Nat,c<=w.length/\g=w.length-c/\o=.int .i64 c/\Hid (c+nr l (w.drop c)=M)/\wr=n)
 case atStart=>exact⟨0,by omega,rfl,rfl,by show _=_;rw[UZ,SG];exact bv.out.symm,rfl⟩
 case round =>
  obtain⟨c,hk,hg,rfl,HC,rfl⟩:=hrel
  obtain⟨u,aS,a1,az⟩:∃u:Bool,Hid (∀h:c<w.length,w[c].z<=l->u=true)/\Hid (u=true->c<w.length/\c+1+nr l (w.drop (c+1))=M)/\Hid ((∀h:c<w.length,¬w[c].z<=l)->u=false):=by
   by_cases j:c<w.length
   ·have C:=HC.out
    rw[Re j,nr]at C;refine⟨decide (w[c].z<=l),fun h S=>by simpa using S,fun h=>⟨j,?_⟩,fun h=>by simpa using h j⟩;rw[QV (by simpa using h)]at C;omega
   ·exact⟨false,(fun h=>absurd h j),(fun h=>by cases h),(fun _=>rfl)⟩
  have bj:Hid (u=false->c=M):=fun h=>by
   have C:=HC.out
   by_cases j:c<w.length
   ·rw[Re j,nr]at C
    by_cases S:w[c].z<=l
    ·have:=aS.out j S;rw[h]at this;cases this
    ·rw[QS S]at C;omega
   ·rw[Ty (by omega),nr]at C;omega
  go_upto_region 2 with fail
  go_cut [34] from 16 to 34 (fun ba wd=>ba=.bool u/\wd=wr)
  case first =>
   by_cases j:c<w.length
   ·obtain⟨gs,rfl,bd,-,q1,-⟩:=HD.out.s.2 c w[c] (QO j)
    have ar:(c:Int)<(w.length:Int):=by omega
    by_cases S:w[c].z<=l
    ·have a2:(w[c].z:Int)<=(l:Int):=by omega
     have HV:=hI (aS.out j S);go_wp2_with fail
     go_meet
     case rel=>exact⟨by rw[HV.out],rfl⟩
    ·have a2:¬(w[c].z:Int)<=(l:Int):=by omega
     have HV:=hI (az.out (fun _=>S));go_wp2_with fail
     go_meet
     case rel=>exact⟨by rw[HV.out],rfl⟩
   ·have ar:¬(c:Int)<(w.length:Int):=by omega
    have HV:=hI (az.out (fun h=>absurd h j));go_wp2_with fail
    go_meet
    case rel=>exact⟨by rw[HV.out],rfl⟩
  case rest =>
   obtain⟨rfl,D⟩:=hcut;subst D
   cases u
   ·have a6:=bj.out rfl
    subst a6;go_upto_if 38 with fail
    go_cut [6] from 37 to 47 (fun s6 wd=>s6=.int .i64 P/\wd=wc)
    case first =>
     by_cases ag:0<c
     ·have al:c-1<w.length:=by omega
      obtain⟨gs,rfl,bd,-,q1,-⟩:=HD.out.s.2 (c-1) w[c-1] (QO al);have T:Hid (w[c-1].z=P):=by show _=_;rw[HB.out,QV ag,bM w (c-1) al]
      rw[T.out]at q1;have cf:IntKind.i64.wrap ((c:Int)-1)=(c:Int)-1:=by rw[R8];omega
      have cj:((c:Int)-1).toNat=c-1:=by omega
      have b1:(0:Int)<=(c:Int)-1:=by omega
      have b2:(c:Int)-1<(w.length:Int):=by omega
      have b3:(1:Int)<=(c:Int):=by omega
      have b4:(0:Int)<(c:Int):=by omega
      go_wp2_with fail
      go_meet
      case rel=>exact⟨rfl,rfl⟩
     ·have T:Hid (P=0):=by show _=_;rw[HB.out,QS ag]
      have b4:¬(0:Int)<(c:Int):=by omega
      go_wp2_with fail
      go_meet
      case rel=>exact⟨by rw[T.out];rfl,rfl⟩
    case rest =>
     obtain⟨rfl,D⟩:=hcut;subst D
     by_cases R:l=P
     ·have p:Hid (bh b w l=dw b w x c):=by show _=_;rw[i.out,QV R]
      subst R;clear A;go_wp2_with (go_at_call 121;refine QT J.out ?_;rintro e G ⟨rfl,W⟩);go_ret;exact⟨QM p.out.symm,W⟩
     ·rw[QS R]at i
      have bz:((l:Int)==(P:Int))=false:=by simp;omega
      go_upto_region 11 with (go_at_call 85;refine QT A.out ?_;rintro e G ⟨rfl,d⟩;rw[d];clear d)
      by_cases ad:l<H
      ·rw[QV ad]at i
       have a0:(l:Int)<(H:Int):=by omega
       go_upto_region 14 with (first | (go_at_call 122;refine(fT x _).mono ?_;rintro e G ⟨rfl,d⟩;rw[d];clear d) | (go_at_call 123;refine(lI x _).mono ?_;rintro e G ⟨rfl,d⟩;rw[d];clear d))
       obtain⟨ya,bw⟩:∃ya,Hid (aC x=ya):=⟨_,rfl⟩
       obtain⟨yu,a4⟩:∃yu,Hid (aG x=yu):=⟨_,rfl⟩
       rw[bw.out,a4.out]at i ⊢
       cases ya
       ·cases yu
        ·have p:Hid (bh b w l=14):=by show _=_;rw[i.out];rfl
         go_wp2;go_ret;exact⟨QM p.out.symm,ab.refl _ _⟩
        ·have p:Hid (bh b w l=0):=by show _=_;rw[i.out];rfl
         go_wp2;go_ret;exact⟨QM p.out.symm,ab.refl _ _⟩
       ·have p:Hid (bh b w l=0):=by show _=_;rw[i.out];rfl
        go_wp2;go_ret;exact⟨QM p.out.symm,ab.refl _ _⟩
      ·rw[QS ad]at i
       have a0:¬(l:Int)<(H:Int):=by omega
       have HX:=hI (vi.nil wc);clear J A c1;go_wp2
       go_loopg [12,13] (l-H) (fun g o q wr=>∃(m:Nat) (B:Hd) (O:List ByteArray),(H<=m/\m<=l)/\g=l-m/\o=.slice B.ao O.length B.cap/\q=.int .i64 m/\O.length<=m/\Hid (O=fa b H m)/\Hid (vi wc wr B O))
       case atStart=>exact⟨H,⟨none,0⟩,[],⟨by omega,by omega⟩,rfl,rfl,rfl,by simp,by show _=_;unfold fa;rw[RV];rfl,HX⟩
       case round =>
        obtain⟨m,B,O,⟨bl,cc⟩,b5,rfl,rfl,cp,HO,Y⟩:=hrel;have F:=hI (fz.Va HD.out Y.out.kept);obtain⟨d0,-,ca⟩:=F.out.cells
        by_cases ch:m<l
        ·have af:m<b.length:=by omega
         obtain⟨b0,e5,cl,q0,-⟩:=F.out.t.2 m _ (iw b m af)
         cases e5
         replace q0:wr.cell? ⟨X,m*5,none⟩=some (.string (tS b m)):=q0;have bx:(m:Int)<(l:Int):=by omega
         have bT:(m:Int)<(b.length:Int):=by omega
         have br:Hid (O++[tS b m]=fa b H (m+1)):=by show _=_;rw[Bc b H m bl af,HO.out]
         generalize tS b m=y at *;have bo:=Y.out.own;go_wp2_with (at_builtin;refine po _ rfl (.tmp 86) (.tmp 95) rfl B O y rfl bo (by omega) rfl ?_;intro h5 w5 ap ax;have bc:=hI (Y.out.grew ax ap);clear ap ax)
         go_roundg (l-(m+1))
         case measure=>omega
         case rel=>exact⟨m+1,h5,O++[y],⟨by omega,by omega⟩,rfl,by simp,by go_num,by simp;omega,br,bc⟩
        ·have bf:m=l:=by omega
         subst bf;rw[<-HO.out]at i;have E:=Y.out.own.srcX;have N:=hI Y.out.kept;have Q:=hI (j9 O B.ao B.cap ⟨#[36,61]⟩ wr E (by omega));have bp:=hI (Bl r O B.ao B.cap wr E (by omega));have ai:Hid (∀K,Calls prog 125 #[.pointer (some ⟨f,0,none⟩),.string x,.int .i64 c,.bool K,.slice B.ao O.length B.cap] wr fun e w'=>e=.returned (.int .i64 (jW b w x c K O))/\ab [] wr w'):=fun K=>IS f c x K O B.ao B.cap b (some ⟨X,0,none⟩) k w a v wr F.out U E (by omega)
         have a3:=hI (Fl f c r x O B.ao B.cap b (some ⟨X,0,none⟩) k w a v wr F.out U hf E (by omega));unfold lV at i;obtain⟨pf,bs⟩:∃pf,Hid (aJ O ⟨#[36,61]⟩=pf):=⟨_,rfl⟩
         obtain⟨dl,ac⟩:∃dl,Hid (ii x ⟨#[36]⟩=dl):=⟨_,rfl⟩
         rw[bs.out]at Q i;rw[ac.out]at i
         go_upto_region 24 with (first | (go_at_call 93;refine QT Q.out ?_;rintro e G ⟨rfl,d⟩;rw[d];clear d) | (go_at_call 120;refine(fF x _ _ (by omega) (by show 1<=_;omega)).mono ?_;rintro e G ⟨rfl,d⟩;rw[d];clear d))
         rw[ac.out];clear Q E HX d0 Y F;generalize O.length=ol at *
         cases h1:(x.toList == [36,46])
         ·rw[QS (by rw[h1];simp)]at i
          obtain⟨tb,L⟩:∃tb,Hid (((x.toList == [36,61])&&((r.toList == [36,112]) && !pf))=tb):=⟨_,rfl⟩
          rw[L.out]at i
          go_upto_region 26 with fail
          go_cut [107] from 108 to 117 (fun an wd=>an=.bool tb/\wd=wr)
          case first =>
           cases h2:(x.toList == [36,61])
           ·go_wp2_with fail
            go_meet
            case rel=>exact⟨by rw[<-L.out,h2];rfl,rfl⟩
           ·cases h3:(r.toList == [36,112])
            ·go_wp2_with fail
             go_meet
             case rel=>exact⟨by rw[<-L.out,h2,h3];rfl,rfl⟩
            ·go_wp2_with fail
             go_meet
             case rel=>exact⟨by rw[<-L.out,h2,h3];rfl,rfl⟩
          case rest =>
           obtain⟨rfl,D⟩:=hcut;subst D
           cases tb
           ·cases dl
            ·cases pf
             ·cases h4:(r.toList == [36,99])
              ·cases h5:(r.toList == [36,118])
               ·have p:Hid (bh b w m=jm b w r x c O):=by show _=_;rw[i.out,h4,h5];rfl
                go_wp2_with (go_at_call 126;refine QT a3.out ?_;rintro e G ⟨rfl,W⟩);go_ret;exact⟨QM p.out.symm,N.out.trans W⟩
               ·have p:Hid (bh b w m=jW b w x c false O):=by show _=_;rw[i.out,h4,h5];rfl
                have V:=hI (ai.out false);go_wp2_with (go_at_call 125;refine QT V.out ?_;rintro e G ⟨rfl,W⟩);go_ret;exact⟨QM p.out.symm,N.out.trans W⟩
              ·have p:Hid (bh b w m=jW b w x c true O):=by show _=_;rw[i.out,h4];rfl
               have V:=hI (ai.out true);go_wp2_with (go_at_call 125;refine QT V.out ?_;rintro e G ⟨rfl,W⟩);go_ret;exact⟨QM p.out.symm,N.out.trans W⟩
             ·have p:Hid (bh b w m=0):=by show _=_;rw[i.out];rfl
              go_wp2;go_ret;exact⟨QM p.out.symm,N.out⟩
            ·have p:Hid (bh b w m=8):=by show _=_;rw[i.out];rfl
             go_wp2;go_ret;exact⟨QM p.out.symm,N.out⟩
           ·rw[QV rfl]at i
            by_cases ho:ol=0
            ·have p:Hid (bh b w m=15):=by show _=_;rw[i.out,QV ho]
             have bk:((ol:Int)==0)=true:=by simpa using ho
             go_wp2;go_ret;exact⟨QM p.out.symm,N.out⟩
            ·have p:Hid (bh b w m=0):=by show _=_;rw[i.out,QS ho]
             have bk:((ol:Int)==0)=false:=by simpa using ho
             go_wp2;go_ret;exact⟨QM p.out.symm,N.out⟩
         ·have p:Hid (bh b w m=ip r O):=by show _=_;rw[i.out,QV h1]
          go_wp2_with (go_at_call 124;refine QT bp.out ?_;rintro e G ⟨rfl,d⟩;rw[d];clear d);go_ret;exact⟨QM p.out.symm,N.out⟩
   ·obtain⟨j,hm⟩:=a1.out rfl
    have HM:=hI hm;clear hm;go_wp2
    go_roundg (w.length-(c+1))
    case measure=>omega
    case rel=>exact⟨c+1,by omega,rfl,by go_num,HM,rfl⟩
def PC(T:List Tk)(S:List Sm)(i:Nat):Bool:=!(bh T S i==0)
def yn(T:List Tk)(S:List Sm):Tk:=match (List.range T.length).find? (PC T S) with
 | some i=>⟨⟨#[]⟩,bh T S i,(T.getD i jf).file,(T.getD i jf).line,(T.getD i jf).col⟩
 | none=>jf
theorem La{T:List Tk}{S:List Sm}{k:Nat}(b:k<T.length)(h:(bh T S k==0)=false)(c:∀j,j<k->bh T S j=0):yn T S=⟨⟨#[]⟩,bh T S k,(T.getD k jf).file,(T.getD k jf).line,(T.getD k jf).col⟩:=by
 have e:(List.range T.length).find? (PC T S)=some k:=by
  rw[Si];exact⟨by unfold PC;rw[h];rfl,Q9.2 b,fun j a=>by unfold PC;rw[c j a];rfl⟩
 unfold yn;rw[e]
theorem Oo(b:∀j,j<x.length->bh x S j=0):yn x S=jf:=by
 have e:(List.range x.length).find? (PC x S)=none:=by
  rw[Sj];intro j a;unfold PC;rw[b j (Q9.1 a)];simp
 unfold yn;rw[e]
def PJ(T:List Tk)(S:List Sm):Prop:=∀i,i<T.length->(∀j,j<i->bh T S j=0)->il T S (i8 S i)/\l6 T S (i8 S i)
theorem wb(N:fz n l b I k w a v)(hT:b.length<=100000)(hO:PJ b w)(hs:∀i,(tS b i).size<=1073741824) :
  Calls prog 56 #[.pointer (some ⟨l,0,none⟩)] n fun e w'=>e=.returned (.agg #[.int .i64 (yn b w).rule,.string (yn b w).file,.int .i64 (yn b w).line,.int .i64 (yn b w).col])/\ab [] n w':=by
 have R:=hI N;obtain⟨W,B⟩:∃W,Hid (n.alloc (.cells #[.int .i64 0,.string ⟨#[]⟩,.int .i64 0,.int .i64 0] 87)=W):=⟨_,rfl⟩
 have BF:W.heap[n.heap.size]?=some (.cells #[.int .i64 0,.string ⟨#[]⟩,.int .i64 0,.int .i64 0] 87 (0,0)):=by rw[<-B.out];exact QR _ _
 have F:Hid (ab [] n W):=by show ab [] n W;rw[<-B.out];exact(ab.refl [] _).alloc _
 clear N;go_enter func56,ntmps56
 go_upto_region 1 with fail
 rw[B.out];go_wp2
 go_loopg [3] b.length (fun g i wr=>∃c:Nat,c<=b.length/\g=b.length-c/\i=.int .i64 c/\Hid (∀j,j<c->bh b w j=0)/\Hid (ab [] W wr))
 case atStart=>exact⟨0,by omega,rfl,rfl,(fun j T=>by omega),ab.refl _ _⟩
 case round =>
  obtain⟨c,hk,hg,rfl,y,J⟩:=hrel;have o:=hI (F.out.trans J.out);have p:=hI (fz.Va R.out o.out);obtain⟨O,-,X⟩:=p.out.cells;have d:=J.out.get BF (by simp)
  by_cases h:c<b.length
  ·obtain⟨V,U⟩:=hO c h y.out
   have K:(c:Int)<(b.length:Int):=by omega
   have m:=hI (Bh l c b I k w a v wr p.out h V U hs);obtain⟨r,x⟩:∃r,Hid (bh b w c=r):=⟨_,rfl⟩
   rw[x.out]at m;clear V U
   cases M:(r==0)
   ·have A:Hid (yn b w=⟨⟨#[]⟩,r,(b.getD c jf).file,(b.getD c jf).line,(b.getD c jf).col⟩):=by show _=_;rw[La h (by rw[x.out];exact M) y.out,x.out]
    go_upto_region 5 with (go_at_call 86;refine QT m.out ?_;rintro e q ⟨rfl,z⟩)
    have s:=hI (o.out.trans z);have u:=hI (fz.Va R.out s.out);have f:=z.get d (by simp);clear O X;obtain⟨O,-,X⟩:=u.out.cells;obtain⟨gT,rfl,ac,-,-,t2,Y,t4⟩:=u.out.t.2 c _ (iw b c h);generalize b.getD c jf=t at *;obtain⟨ts,tr,Q,S,P⟩:=t;simp only at t2 Y t4 A;have f0:=am f 0;have f1:=am f 1;have f2:=am f 2;have f3:=am f 3;have g0:q.cell? ⟨n.heap.size,0,none⟩=some (.int .i64 0):=by rw[aa f];rfl
    have g1:q.cell? ⟨n.heap.size,1,none⟩=some (.string ⟨#[]⟩):=by rw[aa f];rfl
    have g2:q.cell? ⟨n.heap.size,2,none⟩=some (.int .i64 0):=by rw[aa f];rfl
    have Z:q.cell? ⟨n.heap.size,3,none⟩=some (.int .i64 0):=by rw[aa f];rfl
    have y2:=ae f;go_wp2;obtain⟨D,C,L,E⟩:=sH f (.int .i64 r) (.string Q) (.int .i64 S) (.int .i64 P);exact QX (v:=.agg #[.int .i64 r,.string Q,.int .i64 S,.int .i64 P]) (by simp[results,results56,go_sem,D,C,L,E]) rfl ⟨by rw[A.out],(((s.out.setCell (QU (by simp)) _).setCell (QU (by simp)) _).setCell (QU (by simp)) _).setCell (QU (by simp)) _⟩
   ·have H:r=0:=by simpa using M
    subst H
    have HM:Hid (∀j,j<c+1->bh b w j=0):=fun j T=>by
     by_cases e:j=c
     ·rw[e];exact x.out
     ·exact y.out j (by omega)
    go_wp2_with (go_at_call 86;refine QT m.out ?_;rintro e q ⟨rfl,z⟩;have G:=hI (J.out.trans z))
    go_roundg (b.length-(c+1))
    case measure=>omega
    case rel=>exact⟨c+1,by omega,rfl,by go_num,HM,G⟩
  ·have A:Hid (yn b w=jf):=Oo (fun j T=>y.out j (by omega))
   have f0:=am d 0;have f1:=am d 1;have f2:=am d 2;have f3:=am d 3;have g0:wr.cell? ⟨n.heap.size,0,none⟩=some (.int .i64 0):=by rw[aa d];rfl
   have g1:wr.cell? ⟨n.heap.size,1,none⟩=some (.string ⟨#[]⟩):=by rw[aa d];rfl
   have g2:wr.cell? ⟨n.heap.size,2,none⟩=some (.int .i64 0):=by rw[aa d];rfl
   have Z:wr.cell? ⟨n.heap.size,3,none⟩=some (.int .i64 0):=by rw[aa d];rfl
   have y2:=ae d;have K:¬(c:Int)<(b.length:Int):=by omega
   go_wp2;obtain⟨D,C,L,E⟩:=sH d (.int .i64 0) (.string ⟨#[]⟩) (.int .i64 0) (.int .i64 0);exact QX (v:=.agg #[.int .i64 0,.string ⟨#[]⟩,.int .i64 0,.int .i64 0]) (by simp[results,results56,go_sem,D,C,L,E]) rfl ⟨by rw[A.out];rfl,(((o.out.setCell (QU (by simp)) _).setCell (QU (by simp)) _).setCell (QU (by simp)) _).setCell (QU (by simp)) _⟩
theorem zg(h:T<w.length):au (w++[z2]) T=au w T:=by
 unfold au;rw[QP,QP,Q6 h]
theorem uj:au (w++[z2]) w.length=z2:=by
 unfold au;rw[QP,Q4 (QQ _),RV];rfl
theorem Be(h:T<=w.length):kt (w++[z2]) T=kt w T:=by
 unfold kt
 split
 ·rw[zg w z2 (T-1) (by omega)]
 ·rfl
structure QD(T:List Tk)(S:List Sm)(j:Nat)(s:Sm):Prop where
 a:s.a=kt S j
 lt:s.a<s.z
 e:bS (tS T (s.z-1))=true
 n:∀q,s.a<=q->q<s.z-1->bS (tS T q)=false
 k:(s.k,s.h)=ew T s.a
structure Dr(T:List Tk)(i:Nat)(S:List Sm)(f:Nat):Prop where
 s:∀j,j<S.length->QD T S j (au S j)/\(au S j).z<=i
 fr:f=kt S S.length
 n:∀q,f<=q->q<i->bS (tS T q)=false
 le:f<=i
theorem IW:Dr b T (eO b T).1 (eO b T).2:=by
 induction T with
 | zero=>exact⟨fun j d=>by simp[eO]at d,rfl,fun q _ h=>by omega,QQ _⟩
 | succ T c =>
  rw[eO]
  split
  ·next l =>
   generalize (eO b T).1=S at *;generalize (eO b T).2=f at *;refine⟨fun j d=>?_,?_,fun q g i=>by simp only at g;omega,QQ _⟩
   ·simp only[QZ,Ro,Rr]at d
    by_cases e:j<S.length
    ·obtain⟨p,m⟩:=c.s j e
     rw[zg S _ j e];exact⟨⟨by rw[Be S _ j (by omega)];exact p.a,p.lt,p.e,p.n,p.k⟩,by omega⟩
    ·have e:j=S.length:=by omega
     subst e;rw[uj];have:=c.le;exact⟨⟨by rw[Be S _ _ (QQ _)];exact c.fr,by show f<T+1;omega,l,fun q g i=>c.n q g (by simp only at i;omega),rfl⟩,QQ _⟩
   ·simp only[QZ,Ro,Rr]
    unfold kt;rw[QV (by omega),SB,uj]
  ·next l =>
   refine⟨fun j d=>?_,c.fr,fun q g i=>?_,by have:=c.le;omega⟩
   ·obtain⟨p,m⟩:=c.s j d
    exact⟨p,by omega⟩
   ·by_cases e:q=T
    ·rw[e];simpa using l
    ·exact c.n q g (by omega)
theorem fw:Dr b b.length (aj b) (eO b b.length).2:=IW b b.length
theorem KT(a:∀q,q<T->∃s,w[q]?=some s/\s.z<=k)(b:∀s,w[T]?=some s->¬s.z<=k):nr k w=T:=by
 induction w generalizing T with
 | nil =>
  cases T with
  | zero=>rfl
  | succ T=>obtain⟨s,h,-⟩:=a 0 (by omega);cases h
 | cons s r d =>
  cases T with
  | zero=>rw[nr,QS (b s rfl)]
  | succ T =>
   obtain⟨g,e,f⟩:=a 0 (by omega);simp at e;subst e;rw[nr,QV f,d T (fun q i=>by simpa using a (q+1) (by omega)) (fun t c=>b t (by simpa using c))]
section
variable {T:List Tk} {i0 f:Nat} {S:List Sm}
theorem GL(h:T<w.length):w[T]?=some (au w T):=by
 unfold au;rw[QP,QO h];rfl
theorem Dr.step(p:Dr T i0 S f)(j:Nat)(h:j+1<S.length):(au S j).z<(au S (j+1)).z:=by
 have q:=(p.s (j+1) h).1;have:=q.lt;rw[q.a]at this;unfold kt at this;rw[QV (by omega),SB]at this;exact this
theorem Dr.mono(p:Dr T i0 S f)(j k:Nat)(h:j<=k)(a:k<S.length):(au S j).z<=(au S k).z:=by
 induction k with
 | zero =>
  have:j=0:=by omega
  rw[this];exact QQ _
 | succ k b =>
  by_cases e:j=k+1
  ·rw[e];exact QQ _
  ·have:=b (by omega) (by omega)
   have:=p.step k a;omega
theorem Dr.cnt(p:Dr T i0 S f)(j:Nat)(h:j<S.length)(i:Nat)(g:(au S j).a<=i)(c:i<(au S j).z):i8 S i=j:=by
 refine KT i S j (fun q d=>⟨au S q,GL S q (by omega),?_⟩) (fun s b=>?_)
 ·have e:=(p.s j h).1.a
  unfold kt at e;rw[QV (by omega)]at e;have:=p.mono q (j-1) (by omega) (by omega);omega
 ·rw[GL S j h]at b;cases b
  omega
theorem Dr.beg(p:Dr T i0 S f)(j:Nat)(h:j<S.length)(i:Nat)(c:(au S j).a<=i)(b:i<(au S j).z):kt S (i8 S i)=(au S j).a:=by
 rw[p.cnt j h i c b];exact((p.s j h).1.a).symm
end
theorem oC{x:ByteArray}{l:List UInt8}(h:(x.toList==l)=true):x=⟨l.toArray⟩:=by
 have a:x.toList=l:=by simpa using h
 apply U3
 apply Um.1
 rw[<-RY,a]
theorem kL(h:bS y=true):ii y ⟨#[36]⟩=true/\(y.toList == [36,99])=false/\(y.toList == [36,118])=false/\(y.toList == [36,102])=false:=by
 unfold bS at h
 rcases Rz _ _ ▸ h with h | h
 ·rcases Rz _ _ ▸ h with h | h <;> (rw[oC h];decide +kernel)
 ·rw[oC h];decide +kernel
theorem GR(p:Dr x L S z6)(j:Nat)(h:j<S.length)(q:Nat)(c:(au S j).a<=q)(b:q<(au S j).z):bh x S q =
  if q=(au S j).a then dw x S (tS x q) j
  else if q<(au S j).h then(if(aC (tS x q)||aG (tS x q))=true then 0 else 14)
  else lV x S (au S j).k (tS x q) j (fa x (au S j).h q):=by
 unfold bh;rw[p.beg j h q c b,p.cnt j h q c b,<-(p.s j h).1.k]
theorem wT{a:ByteArray}(b:bS a=true)(h:lV x S y a L z3=0):(a.toList == [36,46])=true/\ip y z3=0:=by
 unfold lV at h
 cases c:(a.toList == [36,46])
 ·rw[QS (by rw[c];simp)]at h
  have f:=(kL b).1
  have d:(a.toList == [36,61])=false:=by
   unfold bS at b;rw[c,So]at b
   rcases Rz _ _ ▸ b with e | e <;> (rw[oC e];decide +kernel)
  rw[d,TP,QS (by simp),QV f]at h
  cases h
 ·rw[QV c]at h
  exact⟨rfl,h⟩
theorem tw(h:(y.toList == [36,46])=true):mL y=true:=by unfold mL;rw[h];simp
theorem No(h:(y.toList == [36,102])=true):dw x S y L=11:=by
 have e:=oC h;have d:((y.toList == [36,123])||((y.toList == [36,118])||(y.toList == [36,100])))=false/\(y.toList == [36,125])=false/\(y.toList == [36,99])=false/\(aC y||aG y)=true:=by rw[e];decide +kernel
 obtain⟨f,b,c,a⟩:=d;unfold dw;rw[f,b,c,a];simp
theorem LB(h:(aC y||aG y)=true):(y.toList == [36,99])=false/\(y.toList == [36,118])=false/\bS y=false:=by
 unfold aC aG at h
 rcases Rz _ _ ▸ h with h | h
 ·rcases Rz _ _ ▸ h with h | h <;> (rw[oC h];decide +kernel)
 ·rcases Rz _ _ ▸ h with h | h <;> (rw[oC h];decide +kernel)
theorem Do(p:Dr x x.length S L)(j:Nat)(h:j<S.length)(y:∀q,(au S j).a<=q->q<(au S j).z->bh x S q=0) :
  (((au S j).k.toList == [36,99])=true->cU x (au S j).h)/\(((au S j).k.toList == [36,118])=true->cU x (au S j).h)/\(((au S j).k.toList == [36,102])=true->(au S j).h+1<x.length):=by
 have r:=GR p j h;obtain⟨P,E⟩:=p.s j h;generalize au S j=s at *;obtain⟨a,z,I,k⟩:=s;obtain⟨-,B,i,-,l⟩:=P;simp only at *;have m:=y (z-1) (by omega) (by omega);rw[r (z-1) (by omega) (by omega)]at m;have w:=y a (QQ _) B;rw[r a (QQ _) B,QV rfl]at w;unfold ew at l;have b:=kL i
 by_cases n:(ii (tS x a) ⟨#[36]⟩||decide (x.length<=a+1))=true
 ·rw[QV n]at l
  cases l
  have d:¬(z-1=a)->cU x (a+1):=fun f=>by
   rw[QS f,QS (by omega)]at m;have:=wT i m;exact⟨z-1,by omega,by omega,tw this.1⟩
  refine⟨fun c=>d (fun e=>?_),fun c=>d (fun e=>?_),fun c=>?_⟩
  ·rw[e,c]at b;exact absurd b.2.1 (by simp)
  ·rw[e,c]at b;exact absurd b.2.2.1 (by simp)
  ·rw[No c]at w;cases w
 ·rw[QS n]at l
  cases l
  have u:ii (tS x a) ⟨#[36]⟩=false:=by
   cases e:ii (tS x a) ⟨#[36]⟩
   ·rfl
   ·rw[e]at n;exact absurd rfl n
  have f:¬(z-1=a):=fun e=>by
   rw[e,u]at b;exact absurd b.1 (by simp)
  have v:=y (a+1) (by omega) (by omega);rw[r (a+1) (by omega) (by omega),QS (by omega),QV (by omega)]at v
  have t:(aC (tS x (a+1))||aG (tS x (a+1)))=true:=by
   cases e:(aC (tS x (a+1))||aG (tS x (a+1)))
   ·rw[e]at v;cases v
   ·rfl
  obtain⟨G,D,F⟩:=LB t;refine⟨fun c=>absurd c (by rw[G];simp),fun c=>absurd c (by rw[D];simp),fun c=>?_⟩;have A:¬(z-1=a+1):=fun e=>by rw[e,F]at i;cases i
  rw[QS f,QS (by omega)]at m;have g:=(wT i m).2;unfold ip at g
  split at g
  ·cases g
  ·split at g
   ·cases g
   ·next H C =>
    have o:¬(fa x (a+2) (z-1)).length<2:=fun o=>C (by rw[c];simp[o])
    unfold fa at o;rw[Rh,RO,RQ]at o;omega
theorem Oq(k:b.length<=100000):PJ b (aj b):=by
 intro i l c;have p:=fw b;have m:(aj b).length<=b.length:=oF b b.length;have h:i8 (aj b) i<=(aj b).length:=OP i (aj b);generalize aj b=S at *
 have e:∀j,j<i8 S i->(au S j).z<=i:=fun j a=>by
  obtain⟨s,g,f⟩:=Bm i S j a;rw[GL S j (by omega)]at g
  cases g;exact f
 have d:=fun j (a:j<i8 S i)=>Do p j (by omega) (fun q _ f=>c q (by have:=e j a;omega))
 refine⟨⟨h,by omega,k,fun j a=>(d j a).1,fun j a=>(d j a).2.1,fun j a=>?_⟩,fun j a=>(d j a).2.2⟩;have:=(p.s j (by omega)).1.lt;have:=e j a;omega
theorem rD(D:H.size<=1073741824) :
  Calls prog 52 #[.string H] n fun e x=>e=.returned (.bool (fV H))/\x=n:=by
 by_cases u:H.size=0
 ·have q:Hid (fV H=false):=mm H (Q0 (by omega))
  have o:((H.size:Int)==0)=true:=by simpa using u
  go_enter func52,ntmps52;go_wp2;go_ret;exact⟨aD q.out.symm,rfl⟩
 ·have o:((H.size:Int)==0)=false:=by simpa using u
  by_cases B:8<H.size
  ·have q:Hid (fV H=false):=mm H (QU (by omega))
   have p:(8:Int)<(H.size:Int):=by omega
   go_enter func52,ntmps52;go_wp2;go_ret;exact⟨aD q.out.symm,rfl⟩
  ·have p:¬(8:Int)<(H.size:Int):=by omega
   have v:Hid (fV H=(List.range H.size).all (fun i=>kI (aF H i))):=by
    show _=_
    unfold fV;rw[show decide (1<=H.size)=true by simp;omega,show decide (H.size<=8)=true by simp;omega];rfl
   go_enter func52,ntmps52;go_wp2
   go_loopg [3] H.size (fun g i wr=>∃k:Nat,k<=H.size/\g=H.size-k/\i=.int .i64 k/\Hid (∀i,i<k->kI (aF H i)=true)/\wr=n)
   case atStart=>exact⟨0,by omega,by omega,rfl,fun i h=>by omega,rfl⟩
   case round =>
    obtain⟨k,A,C,rfl,b,rfl⟩:=hrel
    by_cases d:k<H.size
    ·have c:Hid (kI (H[k].toNat:Int)=(fn (H[k].toNat:Int) && !((H[k].toNat:Int)==36))):=rfl
     have j:Hid (kI (H[k].toNat:Int)=false->fV H=false):=fun r=>by rw[v.out];exact DD k d (by rw[bP H k d];exact r)
     have m:Hid (kI (H[k].toNat:Int)=true->∀i,i<k+1->kI (aF H i)=true):=fun r i w=>by
      by_cases e:i=k
      ·subst e;rw[bP H i d];exact r
      ·exact b.out i (by omega)
     have y:(k:Int)<(H.size:Int):=by omega
     cases l:fn (H[k].toNat:Int)
     ·have f:=hI (j.out (by rw[c.out,l];rfl))
      go_wp2_with (go_at_call 78;refine(lr _ _).mono ?_;rintro e t ⟨rfl,a⟩;rw[a];clear a);go_ret;exact⟨aD f.out.symm,rfl⟩
     ·cases s:((H[k].toNat:Int)==36)
      ·have f:=hI (m.out (by rw[c.out,l,s];rfl))
       go_wp2_with (go_at_call 78;refine(lr _ _).mono ?_;rintro e t ⟨rfl,a⟩;rw[a];clear a)
       go_roundg (H.size-(k+1))
       case measure=>omega
       case rel=>exact⟨k+1,by omega,rfl,by go_num,f,rfl⟩
      ·have f:=hI (j.out (by rw[c.out,l,s];rfl))
       go_wp2_with (go_at_call 78;refine(lr _ _).mono ?_;rintro e t ⟨rfl,a⟩;rw[a];clear a);go_ret;exact⟨aD f.out.symm,rfl⟩
    ·have z:Hid (fV H=true):=by show _=_;rw[v.out];exact zA (fun i w=>b.out i (by omega))
     go_wp2;go_ret;exact⟨aD z.out.symm,rfl⟩
theorem BC(d:o.size<=1073741824)(j:H.size<=4294967296) :
  Calls prog 34 #[.string o,.string H] n fun e i=>e=.returned (.int .i64 (cJ o H))/\i=n:=by
 cases f:fV o
 ·have b:Hid (cJ o H=2):=by show _=_;unfold cJ;rw[QV f]
  go_enter func34,ntmps34;go_wp2_with (go_at_call 52;refine(rD o _ d).mono ?_;rintro e g ⟨rfl,a⟩;rw[a];clear a);go_ret;exact⟨QM b.out.symm,rfl⟩
 ·by_cases h:1024<H.size
  ·have b:Hid (cJ o H=3):=by show _=_;unfold cJ;rw[QS (by rw[f];simp),QV h]
   have c:(1024:Int)<(H.size:Int):=by omega
   go_enter func34,ntmps34;go_wp2_with (go_at_call 52;refine(rD o _ d).mono ?_;rintro e g ⟨rfl,a⟩;rw[a];clear a);go_ret;exact⟨QM b.out.symm,rfl⟩
  ·have b:Hid (cJ o H=0):=by show _=_;unfold cJ;rw[QS (by rw[f];simp),QS h]
   have c:¬(1024:Int)<(H.size:Int):=by omega
   go_enter func34,ntmps34;go_wp2_with (go_at_call 52;refine(rD o _ d).mono ?_;rintro e g ⟨rfl,a⟩;rw[a];clear a);go_ret;exact⟨QM b.out.symm,rfl⟩
structure nJ(T:List Tk)(S:List Sm)(n:Nat):Prop where
 ok:il T S n
 sm:S.length<=10000
 tm:T.length<=10000
 e:∀j,j<n->bS (au S j).k=false->cU T (au S j).h
 f:l6 T S n
theorem nJ.mono(h:nJ x S L)(d:z6<=L):nJ x S z6 :=
 ⟨⟨Q1 d h.ok.m,h.ok.s,h.ok.t,fun j b=>h.ok.c j (by omega),fun j b=>h.ok.v j (by omega),fun j b=>h.ok.a j (by omega)⟩,h.sm,h.tm,fun j b=>h.e j (by omega),fun j b=>h.f j (by omega)⟩
def PB(T:List Tk)(S:List Sm)(x y:ByteArray)(a j:Nat):Bool:=((au S j).k.toList == [36,100])&&(!(x.toList==y.toList)&&(aJ (bu T (au S j).h) x&&(aJ (bu T (au S j).h) y&&aV S j a)))
def hQ(T:List Tk)(S:List Sm)(x y:ByteArray)(a:Nat):Bool:=(List.range a).any (PB T S x y a)
theorem fX{l:List UInt8}(h:(y.toList==l)=true)(a:(l == [36,46])=false/\(l == [36,123])=false/\(l == [36,125])=false):bS y=false:=by
 have:y.toList=l:=by simpa using h
 unfold bS;rw[this,a.1,a.2.1,a.2.2];rfl
theorem vH(hD:fz n i b I k w a v)(K:nJ b w f) :
  Calls prog 94 #[.pointer (some ⟨i,0,none⟩),.string o,.string H,.int .i64 f] n fun e J=>e=.returned (.bool (hQ b w o H f))/\ab [] n J:=by
 have V:=hI hD;have hn:=K.ok.m;have hS:=K.ok.s;have hT:=K.ok.t;have R:=hI K;clear hD K;go_enter func94,ntmps94;go_wp2
 go_loopg [9] f (fun g af wr=>∃c:Nat,c<=f/\g=f-c/\af=.int .i64 c/\Hid (∀j,j<c->PB b w o H f j=false)/\Hid (ab [] n wr))
 case atStart=>exact⟨0,by omega,rfl,rfl,(fun j hj=>by omega),ab.refl _ _⟩
 case round =>
  obtain⟨c,hk,hg,rfl,N,z⟩:=hrel
  by_cases F:c<f
  ·have r:c<w.length:=by omega
   have G:=hI (fz.Va V.out z.out);obtain⟨-,c1,hb⟩:=G.out.cells;obtain⟨gs,rfl,ag,-,-,-,q3⟩:=G.out.s.2 c w[c] (QO r);have al:(c:Int)<(f:Int):=by omega
   have ad:(c:Int)<(w.length:Int):=by omega
   have x:Hid (PB b w o H f c=((w[c].k.toList == [36,100])&&(!(o.toList==H.toList)&&(aJ (bu b w[c].h) o&&(aJ (bu b w[c].h) H&&aV w c f))))):=by show _=_;unfold PB;rw[bM w c r]
   have C:Hid ((w[c].k.toList == [36,100])=true->cU b w[c].h):=fun h=>by have:=R.out.e c F;rw[<-bM w c r]at this;exact this (fX h (by decide))
   have Z:Hid ((w[c].k.toList == [36,100])=true->∀l,ab [] n l->Calls prog 72 #[.pointer (some ⟨i,0,none⟩),.int .i64 c] l fun e J=>∃T,e=.returned (.slice T.ao (bu b w[c].h).length T.cap)/\vi l J T (bu b w[c].h)):=fun h l Y=>kC i c b I k w _ v l (fz.Va V.out Y) r hT (C.out h)
   have ai:=ke b w[c].h;have L:Hid (∀l,ab [] n l->Calls prog 92 #[.pointer (some ⟨i,0,none⟩),.int .i64 c,.int .i64 f] l fun e J=>e=.returned (.bool (aV w c f))/\J=l):=fun l Y=>lj i c f b I k w _ v l (fz.Va V.out Y) (by omega) hn hS
   clear C;generalize bu b w[c].h=B at *;generalize w[c].k=sk at *;obtain⟨M,W⟩:∃M,Hid (aV w c f=M):=⟨_,rfl⟩
   rw[W.out]at x L
   cases S:(sk.toList == [36,100])
   ·have u:=hI (dU N.out (by rw[x.out,S];rfl))
    go_wp2
    go_roundg (f-(c+1))
    case measure=>omega
    case rel=>exact⟨c+1,by omega,rfl,by go_num,u,z⟩
   ·cases h2:(o.toList==H.toList)
    ·have U:=hI (Z.out S)
     go_upto_region 6 with (go_at_call 72;refine(U.out _ (by exact z.out)).mono ?_;rintro e X ⟨O,rfl,P⟩)
     have y:=hI (z.out.trans P.kept);have D:=hI (j9 B O.ao O.cap o X P.own.srcX (by omega));have E:=hI (j9 B O.ao O.cap H X P.own.srcX (by omega));have Q:=hI (L.out X y.out);clear P c1 q3;obtain⟨p,Hp⟩:∃p,Hid (aJ B o=p):=⟨_,rfl⟩
     rw[Hp.out]at D x;obtain⟨q,Hq⟩:∃q,Hid (aJ B H=q):=⟨_,rfl⟩
     rw[Hq.out]at E x
     go_upto_region 7 with (go_at_call 93;refine QT D.out ?_;rintro e w9 ⟨rfl,d⟩;rw[d];clear d)
     go_upto_region 8 with (go_at_call 93;refine QT E.out ?_;rintro e w9 ⟨rfl,d⟩;rw[d];clear d)
     go_upto_region 9 with (go_at_call 92;refine QT Q.out ?_;rintro e w9 ⟨rfl,d⟩;rw[d];clear d)
     cases A:(p&&(q&&M))
     ·have u:=hI (dU N.out (by rw[x.out,A];simp))
      cases p <;> cases q <;> cases M <;> first | (exact absurd A (by decide)) | skip
      all_goals
       go_wp2
       go_roundg (f-(c+1))
       case measure=>omega
       case rel=>exact⟨c+1,by omega,rfl,by go_num,u,y⟩
     ·have u:Hid (hQ b w o H f=true):=mY c F (by rw[x.out,S,h2,A];rfl)
      simp only[Rf]at A;obtain⟨rfl,rfl,rfl⟩:=A;go_wp2;go_ret;exact⟨aD u.out.symm,y.out⟩
    ·have u:=hI (dU N.out (by rw[x.out,h2];simp))
     go_wp2
     go_roundg (f-(c+1))
     case measure=>omega
     case rel=>exact⟨c+1,by omega,rfl,by go_num,u,z⟩
  ·have u:Hid (hQ b w o H f=false):=vG (fun j hj=>N.out j (by omega))
   go_wp2;go_ret;exact⟨aD u.out.symm,z.out⟩
structure gw(w wr:World)(h:Hd)(r:dN):Prop where
 own:aw wr h r
 far:∀k,h.blk=some k->w.heap.size<=k
 kept:ab [] w wr
theorem gw.Va(a:gw d N M z7)(k:ab [] N z0):gw d z0 M z7:=⟨a.own.Va k,a.far,a.kept.trans k⟩
theorem gw.grew{f:dN}(a:gw d N M z7)(g:bt N z0 M z1)(o:aw z0 z1 f):gw d z0 z1 f:=by
 refine⟨o,fun k b=>?_,⟨g.kept.os.trans a.kept.os,g.kept.tape.trans a.kept.tape,g.kept.output.trans a.kept.output,Q1 a.kept.size g.kept.size,fun k b _=>?_⟩⟩
 ·rcases g.blk with e | ⟨q,e,c⟩
  ·exact a.far k (by rw[<-e];exact b)
  ·rw[e]at b;cases b
   exact Q1 a.kept.size c
 ·rw[g.kept.block k (QW b a.kept.size) (fun c=>by have:=a.far _ (aN c);omega),a.kept.block k b (by simp)]
theorem vi.toL(a:vi d N M z3):gw d N M (aB z3):=⟨a.own,a.far,a.kept⟩
theorem gw.base(a:gw N z0 M z7)(k:ab [] d N):gw d z0 M z7:=⟨a.own,fun q b=>Q1 k.size (a.far q b),k.trans a.kept⟩
theorem bt.beside(g:bt d N M z1){o:Hd}(c:aw d o z7)(a:∀k,o.blk=some k->M.blk≠some k):aw N o z7 :=
 c.Vf (fun q b=>g.kept.block q (c.lt b) (fun e=>a q b (aN e)))
theorem oh{P:Program}(G:zb.guard=none)(s x:Operand)(t:TypeId)(m:zb.op=Op.call { callee:=Callee.builtin Builtin.append,args:=#[s,x],argTypes:=#[t,t] })(i:TypeInfo)(z:Value)(b:Nat)(h:Hd)(r:dN)(a:List Value)(B:P.underlying t=some (.slice r.e))(D:P.info? r.e=some i)(E:i.zero=some z)(M:i.size=r.size)(A:i.bytes=b)(C:z.cells.size=r.size)(L:0<r.size)(J:zt.eval s=.slice h.ao r.n h.cap)(f:aw n h r)(N:r.n<=1000000)(I:b<=1000)(K:zt.eval x=.slice (some ⟨n.heap.size,0,none⟩) 1 1)(O:a.length=r.size)(l:∀u∈a,u.oneCell'=true)(F:∀g o,aw o g ⟨r.e,r.size,r.n+1,r.xs++a⟩->bt n o h g->wpList P y3 y5 y4 (zt.put zb.dst (.slice g.ao (r.n+1) g.cap)) o) :
  wpList P y3 y5 (zb :: y4) zt (n.alloc (.cells a.toArray r.e)):=by
 have q:ab [] n (n.alloc (.cells a.toArray r.e)):=(ab.refl [] _).alloc _;have v:(n.alloc (.cells a.toArray r.e)).heap[n.heap.size]?=some (.cells a.toArray r.e (0,0)):=QR _ _;refine aM _ G s x t m i z b h r B D E M A C L J (f.Va q) ⟨n.heap.size,0,none⟩ 1 1 a K (by omega) ?_ l Rb (by unfold maxLen;omega) (Q1 (SJ (show r.n+1<=1000001 by omega) I) (by omega)) ?_
 ·intro j u H
  rw[bL,aa v];simpa using H
 ·intro y c w k d p
  exact F ⟨some ⟨y,0,none⟩,c⟩ w k ((bt.Va q).trans (bt.made d p))
def qC(w:World)(ao:Option Addr)(L:List Nat):Prop:=∀(k n:Nat),L[k]?=some n->∃g,ao=some ⟨g,0,none⟩/\g<w.heap.size/\w.cell? ⟨g,k,none⟩=some (.int .i64 n)
theorem qC.Va(h:qC d z4 y1)(k:ab [] d N):qC N z4 y1:=by
 intro j x b;obtain⟨g,e,a,c⟩:=h j x b;exact⟨g,e,QW a k.size,by rw[Q5 (k.block g a (by simp))];exact c⟩
theorem ge.Va(h:ge d z4 z3)(k:ab [] d N):ge N z4 z3:=by
 intro j x b;obtain⟨g,e,a,c⟩:=h j x b;exact⟨g,e,QW a k.size,by rw[Q5 (k.block g a (by simp))];exact c⟩
theorem aw.srcN(o:aw d M (bB y1)):qC d M.ao y1:=by
 intro k x a
 rcases o.ways with ⟨_,b,_⟩ | ⟨g,e,c,f,h,-⟩
 ·have b:y1.length=0:=b
  have:=(Q7.1 a).1;omega
 ·exact⟨g,c,ae f,o.cell c k (.int .i64 x) (by simp[bB,jX,a])⟩
theorem tj(L:List Nat)(n:Nat):(⟨(bB L).e,(bB L).size,(bB L).n+1,(bB L).xs++[.int .i64 n]⟩:dN)=bB (L++[n]):=by
 simp[bB,jX]
theorem CR(M:List ByteArray):(⟨(aB g).e,(aB g).size,(aB g).n+M.length,(aB g).xs++cN M⟩:dN)=aB (g++M):=by
 simp[aB,cN]
theorem zY:(prog.info? 3).map (fun i=>(i.zero,i.size,i.bytes))=some (some (.int .i64 0),1,8):=by kernel_rfl
theorem ge.cells(h:ge d z4 z3):∀b,z4=some b->∀j u,(cN z3)[j]?=some u->d.cell? (b.add j)=some u:=by
 intro b e j u a;rw[cN,Rp]at a
 cases f:z3[j]? with
 | none=>rw[f]at a;cases a
 | some x =>
  rw[f]at a
  cases a
  obtain⟨g,i,-,c⟩:=h j x f;rw[e]at i
  cases i
  rw[bL];simpa using c
def xW(S:List Sm)(a j:Nat):Bool:=((au S j).k.toList == [36,101])&&aV S j a
def lC(T:List Tk)(S:List Sm)(a k:Nat):List ByteArray:=bu T (au S a).h++((List.range k).filter (xW S a)).flatMap (fun j=>bu T (au S j).h)
def Dh(T:List Tk)(S:List Sm)(a:Nat):List ByteArray:=lC T S a a
def sI(T:List Tk)(S:List Sm)(a:Nat)(U:List ByteArray)(j:Nat):Bool:=aV S j a&&(((au S j).k.toList == [36,101])||(((au S j).k.toList == [36,102])&&aJ U (tS T ((au S j).h+1))))
def bW(T:List Tk)(S:List Sm)(a:Nat):List Nat:=(List.range a).filter (sI T S a (Dh T S a))
theorem gZ(p:Nat->Bool)(k:Nat):(List.range (k+1)).filter p=(List.range k).filter p++(if p k=true then [k] else []):=by
 rw[R4,RU]
 congr 1
 cases h:p k
 ·rw[Sr (by rw[h];simp)];rfl
 ·rw[SF h];rfl
theorem MP(h:xW w D T=true):lC b w D (T+1)=lC b w D T++bu b (au w T).h:=by
 unfold lC;rw[gZ,QV h,Sg,Sx];simp
theorem Og(h:xW w D T=false):lC b w D (T+1)=lC b w D T:=by
 unfold lC;rw[gZ,QS (by rw[h];simp),Rk]
theorem Nj(b:(y.toList == [36,101])=true)(a:(y.toList == [36,102])=true):False:=by
 have c:y.toList=[36,101]:=by simpa using b
 rw[c]at a;exact absurd a (by decide)
theorem nO(hD:fz n f b I k w a v)(Y:nJ b w l)(hn:l<w.length)(hE:cU b (au w l).h) :
  Calls prog 62 #[.pointer (some ⟨f,0,none⟩),.int .i64 l] n fun e T=>∃p,e=.returned (.slice p.ao (bW b w l).length p.cap)/\gw n T p (bB (bW b w l)):=by
 have HD:=hI hD;have hS:=Y.ok.s;have hT:=Y.ok.t;have b1:=Y.sm;have bs:=Y.tm;have ai:=hI Y;have aS:Hid (∀G,ab [] n G->Calls prog 72 #[.pointer (some ⟨f,0,none⟩),.int .i64 l] G fun e T=>∃p,e=.returned (.slice p.ao (bu b w[l].h).length p.cap)/\vi G T p (bu b w[l].h)):=fun G kx=>kC f l b I k w _ v G (hD.Va kx) hn hT (by rw[bM w l hn];exact hE)
 have P:=hI (aS.out n (ab.refl _ _));rw[bM w l hn]at P;have a7:Hid (lC b w l 0=bu b (au w l).h):=by show _=_;unfold lC;simp
 have bo:=ke b (au w l).h;obtain⟨iS,bd,an,a0,aT⟩:=Rd js;obtain⟨iN,ag,K,M,N⟩:=Rd zY;clear hD Y aS;generalize bu b (au w l).h=B0 at *;go_enter func62,ntmps62
 go_upto_region 2 with (go_at_call 72;refine QT P.out ?_;rintro e w0 ⟨h0,rfl,x0⟩)
 have a5:=hI x0.toL;clear x0 P;go_wp2
 go_loopg [5,6] l (fun g u i wr=>∃(c:Nat) (p:Hd) (O:List ByteArray),c<=l/\g=l-c/\u=.slice p.ao O.length p.cap/\i=.int .i64 c/\O.length<=10000*(c+1)/\Hid (O=lC b w l c)/\Hid (gw n wr p (aB O)))
 case atStart=>exact⟨0,h0,B0,by omega,rfl,rfl,rfl,by omega,a7.out.symm,a5⟩
 case round =>
  obtain⟨c,p,O,hk,hg,rfl,rfl,hO,J,z⟩:=hrel
  by_cases a6:c<l
  ·have r:c<w.length:=by omega
   have x:=hI (fz.Va HD.out z.out.kept);obtain⟨-,c1,hb⟩:=x.out.cells;obtain⟨gs,rfl,ba,-,-,-,q3⟩:=x.out.s.2 c w[c] (QO r);have a3:(c:Int)<(l:Int):=by omega
   have al:(c:Int)<(w.length:Int):=by omega
   have D:Hid (xW w l c=((w[c].k.toList == [36,101])&&aV w c l)):=by show _=_;unfold xW;rw[bM w c r]
   have a4:Hid ((w[c].k.toList == [36,101])=true->Calls prog 72 #[.pointer (some ⟨f,0,none⟩),.int .i64 c] wr fun e T=>∃p,e=.returned (.slice p.ao (bu b w[c].h).length p.cap)/\vi wr T p (bu b w[c].h)):=fun h=>kC f c b I k w _ v wr x.out r hT (by have:=ai.out.e c a6;rw[<-bM w c r]at this;exact this (fX h (by decide)))
   have HY:Hid (xW w l c=true->O++bu b w[c].h=lC b w l (c+1)):=fun h=>by rw[MP b w l c h,<-J.out,bM w c r]
   have X:Hid (xW w l c=false->O=lC b w l (c+1)):=fun h=>by rw[Og b w l c h,<-J.out]
   have bv:=ke b w[c].h;have q:=hI (lj f c l b I k w _ v wr x.out (by omega) (by omega) hS);generalize bu b w[c].h=B at *;generalize w[c].k=Z at *;obtain⟨Q,S⟩:∃Q,Hid (aV w c l=Q):=⟨_,rfl⟩
   rw[S.out]at D q
   cases H:(Z.toList == [36,101])
   ·have C:=hI (X.out (by rw[D.out,H];rfl))
    go_wp2_with (go_at_call 92;refine QT q.out ?_;rintro e R ⟨rfl,d⟩;rw[d];clear d)
    go_roundg (l-(c+1))
    case measure=>omega
    case rel=>exact⟨c+1,p,O,by omega,rfl,rfl,by go_num,by omega,C,z⟩
   ·cases Q
    ·have C:=hI (X.out (by rw[D.out,H];rfl))
     go_wp2_with (go_at_call 92;refine QT q.out ?_;rintro e R ⟨rfl,d⟩;rw[d];clear d)
     go_roundg (l-(c+1))
     case measure=>omega
     case rel=>exact⟨c+1,p,O,by omega,rfl,rfl,by go_num,by omega,C,z⟩
    ·have C:=hI (HY.out (by rw[D.out,H];rfl))
     have bg:=hI (a4.out H)
     go_upto_region 8 with (first | (go_at_call 92;refine QT q.out ?_;rintro e R ⟨rfl,d⟩;rw[d];clear d) | (go_at_call 72;refine QT bg.out ?_;rintro e w2 ⟨A,rfl,x2⟩))
     have a1:=hI (z.out.Va x2.kept);have bj:=hI x2.own.srcX.cells;have ar:=hI x2.kept
     have be:A.ao=none->B.length=0/\A.cap=0:=fun e=>by
      rcases x2.own.ways with ⟨q1,q2,q3⟩ | ⟨g,bz,q1,-⟩
      ·exact⟨q2,by rw[q1]⟩
      ·rw[e]at q1;cases q1
     clear x2 c1 q3;go_wp2_with (at_builtin;refine ed _ rfl (.tmp 40) (.tmp 41) 61 rfl iS (.string ⟨#[]⟩) 16 p (aB O) underlying61 bd an a0 aT rfl Rb rfl a1.out.own A.ao B.length A.cap (cN B) rfl (by simp[aB,cN]) be bj.out (lX B) (by simp only[aB];omega) (by omega) ?_;intro h5 w5 j y;rw[CR]at j;have E:=hI (a1.out.grew y j);clear j y)
     go_roundg (l-(c+1))
     case measure=>omega
     case rel=>exact⟨c+1,h5,O++B,by omega,rfl,by simp[aB],by go_num,by simp;omega,C,E⟩
  ·have e:c=l:=by omega
   subst e;obtain⟨U,HU⟩:∃U,Hid (Dh b w c=U):=⟨_,rfl⟩
   have e2:O=U:=by rw[<-HU.out,J.out];rfl
   subst e2;have HX:=hI z.out.own.srcX;have af:=hI z.out.kept;have HR:Hid (bW b w c=(List.range c).filter (sI b w c O)):=by show _=_;unfold bW;rw[HU.out]
   have bl:Hid (gw wr wr ⟨none,0⟩ (bB [])):=⟨QY _ _ _ _,(by intro c hk;cases hk),ab.refl _ _⟩;clear z J;go_wp2
   go_loopg [9,10] c (fun g o i w2=>∃(m:Nat) (A:Hd) (L:List Nat),m<=c/\g=c-m/\o=.slice A.ao L.length A.cap/\i=.int .i64 m/\L.length<=m/\Hid (L=(List.range m).filter (sI b w c O))/\Hid (gw wr w2 A (bB L)))
   case atStart=>exact⟨0,⟨none,0⟩,[],by omega,rfl,rfl,rfl,by simp,rfl,bl⟩
   case round =>
    obtain⟨m,A,L,hm,bp,rfl,rfl,hL,J,z⟩:=hrel
    by_cases az:m<c
    ·have r:m<w.length:=by omega
     have ar:=hI (af.out.trans z.out.kept);have x:=hI (fz.Va HD.out ar.out);obtain⟨c0,c1,hb⟩:=x.out.cells;obtain⟨gs,rfl,ba,-,-,q2,q3⟩:=x.out.s.2 m w[m] (QO r);have a3:(m:Int)<(c:Int):=by omega
     have al:(m:Int)<(w.length:Int):=by omega
     have D:Hid (sI b w c O m=(aV w m c&&((w[m].k.toList == [36,101])||((w[m].k.toList == [36,102])&&aJ O (tS b (w[m].h+1)))))):=by show _=_;unfold sI;rw[bM w m r]
     have bk:Hid ((w[m].k.toList == [36,102])=true->w[m].h+1<b.length):=fun h=>by have:=ai.out.f m az;rw[<-bM w m r]at this;exact this h
     have HY:Hid (sI b w c O m=true->L++[m]=(List.range (m+1)).filter (sI b w c O)):=fun h=>by rw[gZ,QV h,<-J.out]
     have X:Hid (sI b w c O m=false->L=(List.range (m+1)).filter (sI b w c O)):=fun h=>by rw[gZ,QS (by rw[h];simp),Rk,<-J.out]
     have q:=hI (lj f m c b I k w _ v wr x.out (by omega) (by omega) hS);obtain⟨Q,S⟩:∃Q,Hid (aV w m c=Q):=⟨_,rfl⟩
     rw[S.out]at D q;generalize w[m].k=Z at *;generalize w[m].h=F at *;obtain⟨W,Hv⟩:∃W,Hid (tS b (F+1)=W):=⟨_,rfl⟩
     rw[Hv.out]at D;have ad:Hid (∀G,ab [] wr G->Calls prog 93 #[.slice p.ao O.length p.cap,.string W] G fun e T=>e=.returned (.bool (aJ O W))/\T=G):=fun G kx=>j9 O p.ao p.cap W G (ge.Va HX.out (z.out.kept.trans kx)) (by omega)
     obtain⟨hs,a2⟩:∃hs,Hid (aJ O W=hs):=⟨_,rfl⟩
     rw[a2.out]at ad D;have bf:=z.out.own
     cases Q
     ·have C:=hI (X.out (by rw[D.out];rfl))
      go_wp2_with (go_at_call 92;refine QT q.out ?_;rintro e R ⟨rfl,d⟩;rw[d];clear d)
      go_roundg (c-(m+1))
      case measure=>omega
      case rel=>exact⟨m+1,A,L,by omega,rfl,rfl,by go_num,by omega,C,z⟩
     ·cases H:(Z.toList == [36,101])
      ·cases h3:(Z.toList == [36,102])
       ·have C:=hI (X.out (by rw[D.out,H,h3];rfl))
        go_wp2_with (go_at_call 92;refine QT q.out ?_;rintro e R ⟨rfl,d⟩;rw[d];clear d)
        go_roundg (c-(m+1))
        case measure=>omega
        case rel=>exact⟨m+1,A,L,by omega,rfl,rfl,by go_num,by omega,C,z⟩
       ·have bc:=bk.out h3
        obtain⟨gT,rfl,bx,t0,-⟩:=x.out.t.2 (F+1) _ (iw b (F+1) bc);replace t0:wr.cell? ⟨gT,(F+1)*5,none⟩=some (.string (tS b (F+1))):=t0;rw[Hv.out]at t0;have br:(F:Int)+1<(b.length:Int):=by omega
        have b0:IntKind.i64.wrap ((F:Int)+1)=(F:Int)+1:=by rw[R8];omega
        have bT:((F:Int)+1).toNat=F+1:=by omega
        have bw:(0:Int)<=(F:Int)+1:=by omega
        go_upto_region 17 with (go_at_call 92;refine QT q.out ?_;rintro e R ⟨rfl,d⟩;rw[d];clear d)
        have V:=hI (z.out.Va (ab.refl [] wr).drew);have ax:=V.out.own
        go_region_with (go_at_call 93;refine(ad.out _ (by exact(ab.refl [] wr).drew)).mono ?_;rintro e R ⟨rfl,d⟩;rw[d];clear d)
        all_goals
         clear c0 q2 t0
         cases hs
         ·have C:=hI (X.out (by rw[D.out,H,h3];rfl))
          go_wp2
          go_roundg (c-(m+1))
          case measure=>omega
          case rel=>exact⟨m+1,A,L,by omega,rfl,rfl,by go_num,by omega,C,V⟩
         ·have C:=hI (HY.out (by rw[D.out,H,h3];rfl))
          go_wp2_with (at_builtin;refine oh _ rfl (.tmp 93) (.tmp 95) 26 rfl iN (.int .i64 0) 8 A (bB L) [.int .i64 m] underlying26 ag K M N rfl Rb rfl ax (by simp only[bB];omega) (by omega) rfl rfl (by simp[Value.oneCell']) ?_;intro h5 w5 j y;rw[tj]at j;have E:=hI (V.out.grew y j);clear j y)
          go_roundg (c-(m+1))
          case measure=>omega
          case rel=>exact⟨m+1,h5,L++[m],by omega,rfl,by simp[bB],by go_num,by simp;omega,C,E⟩
      ·have C:=hI (HY.out (by rw[D.out,H];rfl))
       have h3:(Z.toList == [36,102])=false:=by
        cases h:(Z.toList == [36,102])
        ·rfl
        ·exact(Nj H h).elim
       go_wp2_with (first | (go_at_call 92;refine QT q.out ?_;rintro e R ⟨rfl,d⟩;rw[d];clear d) | (at_builtin;refine oh _ rfl (.tmp 93) (.tmp 95) 26 rfl iN (.int .i64 0) 8 A (bB L) [.int .i64 m] underlying26 ag K M N rfl Rb rfl bf (by simp only[bB];omega) (by omega) rfl rfl (by simp[Value.oneCell']) ?_;intro h5 w5 j y;rw[tj]at j;have E:=hI (z.out.grew y j);clear j y))
       go_roundg (c-(m+1))
       case measure=>omega
       case rel=>exact⟨m+1,h5,L++[m],by omega,rfl,by simp[bB],by go_num,by simp;omega,C,E⟩
    ·have e:m=c:=by omega
     subst e;rw[<-HR.out]at J;have ap:Hid (bW b w m=L):=J.out.symm;go_wp2;go_ret;exact⟨A,by rw[ap.out];rfl,by rw[ap.out];exact z.out.base af.out⟩
def eU(T:List Tk)(S:List Sm)(a:Nat)(x:ByteArray):Int :=
 if bE T S x a<0 then -1 else if(aC (au S (bE T S x a).toNat).k||aV S (bE T S x a).toNat a)=true then bE T S x a else -1
theorem qR:bE b w y0 T=-1∨∃k,k<T/\bE b w y0 T=(k:Int):=by
 unfold bE
 cases h:(List.range T).find? (qK b w y0) with
 | none=>exact Q0 rfl
 | some j=>exact QU ⟨j,Q9.1 (Ry h),rfl⟩
theorem pZ:eU b w v y0=-1∨∃k,k<v/\eU b w v y0=(k:Int):=by
 unfold eU
 split
 ·exact Q0 rfl
 ·next h =>
  split
  ·rcases qR b w y0 v with e | ⟨k,a,e⟩
   ·omega
   ·exact QU ⟨k,a,e⟩
  ·exact Q0 rfl
theorem xq(J:fz n i b I k w a v)(D:nJ b w f) :
  Calls prog 128 #[.pointer (some ⟨i,0,none⟩),.int .i64 f,.string H] n fun e j=>e=.returned (.int .i64 (eU b w f H))/\ab [] n j:=by
 have o:=hI (oB i f H b I k w a v n J D.ok.m D.ok.s D.ok.a);have d:Hid (eU b w f H=if bE b w H f<0 then -1 else if(aC (au w (bE b w H f).toNat).k||aV w (bE b w H f).toNat f)=true then bE b w H f else -1):=rfl;generalize eU b w f H=R at *;have S:=D.ok.m;have X:=D.ok.s
 rcases qR b w H f with e | ⟨g,Z,e⟩
 ·rw[e]at o d
  rw[QV (by omega)]at d;go_enter func128,ntmps128;go_wp2_with (go_at_call 171;refine QT o.out ?_;rintro e N ⟨rfl,x⟩;have h:=hI x;clear x);go_ret;exact⟨QM d.out.symm,h.out⟩
 ·rw[e]at o d
  rw[QS (by omega),R9]at d;have A:g<w.length:=by omega
  have Y:¬(g:Int)<0:=by omega
  have M:(g:Int)<(w.length:Int):=by omega
  have O:(0:Int)<=(g:Int):=by omega
  obtain⟨r,u⟩:∃r,Hid ((au w g).k=r):=⟨_,rfl⟩
  have V:Hid (∀j,ab [] n j->∃t,a=some ⟨t,0,none⟩/\t<j.heap.size/\j.cell? ⟨t,g*4+3,none⟩=some (.string r)/\j.cell? ⟨i,1,none⟩=some (.slice a w.length v)/\i<j.heap.size/\Calls prog 92 #[.pointer (some ⟨i,0,none⟩),.int .i64 g,.int .i64 f] j fun e F=>e=.returned (.bool (aV w g f))/\F=j):=fun j T=>by
   have G:=J.Va T;obtain⟨-,P,Q⟩:=G.cells;obtain⟨t,U,C,-,-,-,K⟩:=G.s.2 g w[g] (QO A);rw[bM w g A,u.out]at K;exact⟨t,U,C,K,P,Q,lj i g f b I k w _ v j G (by omega) S X⟩
  rw[u.out]at d;clear J;go_enter func128,ntmps128
  go_upto_region 4 with (go_at_call 171;refine QT o.out ?_;rintro e N ⟨rfl,x⟩;have h:=hI x;clear x)
  obtain⟨t,rfl,C,K,P,Q,y⟩:=V.out N h.out;have q:=hI y;clear y;obtain⟨E,L⟩:∃E,Hid (aV w g f=E):=⟨_,rfl⟩
  rw[L.out]at q d;obtain⟨l,p⟩:∃l,Hid (aC r=l):=⟨_,rfl⟩
  rw[p.out]at d
  cases z:(l||E)
  ·rw[z]at d
   simp only[R0]at z;obtain⟨rfl,rfl⟩:=z;rw[QS (by simp)]at d;go_wp2_with (first | (go_at_call 92;refine QT q.out ?_;rintro e B ⟨rfl,c⟩;rw[c];clear c) | (go_at_call 122;refine(fT r _).mono ?_;rintro e B ⟨rfl,c⟩;rw[c,p.out];clear c));go_ret;exact⟨QM d.out.symm,h.out⟩
  ·rw[z,QV rfl]at d
   cases l
   ·have W:E=true:=by simpa using z
    subst W;go_wp2_with (first | (go_at_call 92;refine QT q.out ?_;rintro e B ⟨rfl,c⟩;rw[c];clear c) | (go_at_call 122;refine(fT r _).mono ?_;rintro e B ⟨rfl,c⟩;rw[c,p.out];clear c));go_ret;exact⟨QM d.out.symm,h.out⟩
   ·go_wp2_with (first | (go_at_call 92;refine QT q.out ?_;rintro e B ⟨rfl,c⟩;rw[c];clear c) | (go_at_call 122;refine(fT r _).mono ?_;rintro e B ⟨rfl,c⟩;rw[c,p.out];clear c))
    go_ret;exact⟨QM d.out.symm,h.out⟩
def iD(T:List Tk)(S:List Sm)(j:Int):Nat:=if j<0 then 0 else if aC (au S j.toNat).k=true then(bW T S j.toNat).length else 0
theorem IU(v:Value)(T:List Tk)(S:List Sm)(w:World) :
  Calls prog 129 #[v,.int .i64 (-1)] w fun e b=>e=.returned (.int .i64 (iD T S (-1):Nat))/\ab [] w b:=by
 have a:Hid (iD T S (-1)=0):=rfl;go_enter func129,ntmps129;go_wp2;go_ret;exact⟨by rw[a.out];rfl,ab.refl _ _⟩
theorem yP(q:fz n i b I k w a v)(r:nJ b w f)(E:l<f) :
  Calls prog 129 #[.pointer (some ⟨i,0,none⟩),.int .i64 l] n fun e u=>e=.returned (.int .i64 (iD b w l:Nat))/\ab [] n u:=by
 have K:=r.ok.m;have c:l<w.length:=by omega
 have x:¬(l:Int)<0:=by omega
 have A:(l:Int)<(w.length:Int):=by omega
 have C:(0:Int)<=(l:Int):=by omega
 have o:Hid (iD b w l=if aC (au w l).k=true then(bW b w l).length else 0):=by show _=_;unfold iD;rw[QS x,R9]
 obtain⟨-,M,O⟩:=q.cells;obtain⟨L,rfl,G,-,-,-,J⟩:=q.s.2 l w[l] (QO c);rw[bM w l c]at J
 have H:Hid (aC (au w l).k=true->Calls prog 62 #[.pointer (some ⟨i,0,none⟩),.int .i64 l] n fun e u=>∃j,e=.returned (.slice j.ao (bW b w l).length j.cap)/\gw n u j (bB (bW b w l))):=fun h=>nO i l b I k w _ v n q (r.mono (by omega)) c (r.e l E (by
  unfold aC at h
  rcases Rz _ _ ▸ h with h | h <;> exact fX h (by decide)))
 have B:Hid (aC (au w l).k=(((au w l).k.toList == [36,97])||((au w l).k.toList == [36,112]))):=rfl;clear q r;generalize iD b w l=R at *;generalize (au w l).k=D at *;generalize aC D=t at *
 cases t
 ·rw[QS (by simp)]at o
  have p:=B.out.symm;simp only[R0]at p;obtain⟨z,N⟩:=p;go_enter func129,ntmps129;go_wp2;go_ret;exact⟨by rw[o.out];rfl,ab.refl _ _⟩
 ·rw[QV rfl]at o
  have y:=hI (H.out rfl);have p:=B.out.symm
  cases z:(D.toList == [36,97])
  ·rw[z,So]at p
   go_enter func129,ntmps129;go_wp2_with (go_at_call 62;refine QT y.out ?_;rintro e F ⟨j,rfl,g⟩;have d:=hI g.kept;clear g);go_ret;exact⟨by rw[o.out];rfl,d.out⟩
  ·go_enter func129,ntmps129
   go_wp2_with (go_at_call 62;refine QT y.out ?_;rintro e F ⟨j,rfl,g⟩;have d:=hI g.kept;clear g);go_ret;exact⟨by rw[o.out];rfl,d.out⟩
end Go.Proofs.YtpddjjabfbfifaaGreat
