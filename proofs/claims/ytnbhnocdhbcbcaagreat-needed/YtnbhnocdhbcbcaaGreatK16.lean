import Derived.Deep.RegionHeld3
import Derived.Laws.OwnMore
import Derived.BigQuiet
import Derived.Laws.IdiomStrings
import Derived.Deep.RegionLaw
import Derived.Test.YtnbhnocdhbcbcaaGreatK15
namespace Go.Proofs.YtnbhnocdhbcbcaaGreat
open Go.RowKit Tryz
open Value IntKind Ending
set_option maxHeartbeats 0
variable{d c:Nat}{M:Xs}{n x o:World}{k I N:Hd}{z1:eR}{z2:Xt}{z0:Xu}{D:Xv}(L y:Nat)(i:Xs)(S:Nat)(b:List Tk)(s:Xu)(t:Nat)(w:List Sm)(z3:Xu)(v:Nat)(H:Xs)(l:Nat)(T:World)
set_option maxRecDepth 100000
theorem sU(D:H.size<=1073741824) :
  Calls prog 53 #[string H] T fun e z=>e=returned (bool (g9 H))/\z=T:=by
 by_cases t:H.size=0
 ·have l:Xr (g9 H=false):=nk H (TH (by omega));have n:((H.size:Int)==0)=true:=by simpa using t
  go_enter func53,ntmps53;go_wp2;go_ret;exact⟨aF l.o.symm,rfl⟩
 ·have n:((H.size:Int)==0)=false:=by simpa using t
  by_cases A:8<H.size
  ·have l:Xr (g9 H=false):=nk H (TE (by omega));have p:(8:Int)<(H.size:Int):=(by omega);go_enter func53,ntmps53;go_wp2;go_ret;exact⟨aF l.o.symm,rfl⟩
  ·have p:¬(8:Int)<(H.size:Int):=(by omega);have s:Xr (g9 H=(List.range H.size).all (fun i=>lm (aI H i))):=by
    show _=_;unfold g9;rw[show decide (1<=H.size)=true by simp;omega,show decide (H.size<=8)=true by simp;omega];rfl
   go_enter func53,ntmps53;go_wp2
   go_loopg [3] H.size (fun g i wr=>∃k:Nat,k<=H.size/\g=H.size-k/\i=int i64 k/\Xr (∀i,i<k->lm (aI H i)=true)/\wr=T)
   ·exact⟨0,by omega,by omega,rfl,fun i h=>by omega,rfl⟩
   obtain⟨k,C,B,rfl,b,rfl⟩:=hrel;by_cases d:k<H.size
   ·have c:Xr (lm (H[k].toNat:Int)=(fV (H[k].toNat:Int) && !((H[k].toNat:Int)==36))):=rfl;have j:Xr (lm (H[k].toNat:Int)=false->g9 H=false):=fun q=>by rw[s.o];exact E1 k d (by rw[bZ H k d];exact q)
    have m:Xr (lm (H[k].toNat:Int)=true->∀i,i<k+1->lm (aI H i)=true):=fun q i x=>by
     by_cases e:i=k
     ·subst e;rw[bZ H i d];exact q
     ·exact b.o i (by omega)
    have y:(k:Int)<(H.size:Int):=(by omega);cases r:fV (H[k].toNat:Int)
    ·have f:Xr _:=j.o (by rw[c.o,r];rfl);go_wp2_with (go_at_call 79;refine(lZ _ _).mono ?_;rintro e v ⟨rfl,a⟩;rw[a];clear a);go_ret;exact⟨aF f.o.symm,rfl⟩
    ·cases u:((H[k].toNat:Int)==36)
     ·have f:Xr _:=m.o (by rw[c.o,r,u];rfl);go_wp2_with (go_at_call 79;refine(lZ _ _).mono ?_;rintro e v ⟨rfl,a⟩;rw[a];clear a);go_roundg (H.size-(k+1))
      ·exact⟨k+1,by omega,rfl,by go_num,f,rfl⟩
      omega
     ·have f:Xr _:=j.o (by rw[c.o,r,u];rfl);go_wp2_with (go_at_call 79;refine(lZ _ _).mono ?_;rintro e v ⟨rfl,a⟩;rw[a];clear a);go_ret;exact⟨aF f.o.symm,rfl⟩
   ·have w:Xr (g9 H=true):=(by show _=_;rw[s.o];exact AV (fun i x=>b.o i (by omega)));go_wp2;go_ret;exact⟨aF w.o.symm,rfl⟩
set_option maxRecDepth 512
theorem C7(f:i.size<=1073741824)(l:H.size<=4294967296) :
  Calls prog 35 #[string i,string H] T fun e k=>e=returned (int i64 (dq i H))/\k=T:=by
 cases c:g9 i
 ·have b:Xr (dq i H=2):=by show _=_;unfold dq;rw[Tr c]
  go_enter func35,ntmps35;go_wp2_with (go_at_call 53;refine(sU i _ f).mono ?_;rintro e j ⟨rfl,a⟩;rw[a];clear a);go_ret;exact⟨au b.o.symm,rfl⟩
 ·by_cases g:1024<H.size
  ·have b:Xr (dq i H=3):=(by show _=_;unfold dq;rw[Tp (by rw[c];simp),Tr g]);have d:(1024:Int)<(H.size:Int):=(by omega);go_enter func35,ntmps35;go_wp2_with (go_at_call 53;refine(sU i _ f).mono ?_;rintro e j ⟨rfl,a⟩;rw[a];clear a);go_ret;exact⟨au b.o.symm,rfl⟩
  ·have b:Xr (dq i H=0):=(by show _=_;unfold dq;rw[Tp (by rw[c];simp),Tp g]);have d:¬(1024:Int)<(H.size:Int):=(by omega);go_enter func35,ntmps35;go_wp2_with (go_at_call 53;refine(sU i _ f).mono ?_;rintro e j ⟨rfl,a⟩;rw[a];clear a);go_ret;exact⟨au b.o.symm,rfl⟩
structure pA(T:List Tk)(S:List Sm)(n:Nat):Prop where
 ok:iZ T S n
 sm:S.length<=10000
 tm:T.length<=10000
 e:∀j,j<n->ce (aq S j).k=false->dV T (aq S j).h
 f:mU T S n
theorem pA.mono{T:List Tk}{S:List Sm}(h:pA T S d)(g:c<=d):pA T S c :=
 ⟨⟨TF g h.ok.m,h.ok.s,h.ok.t,fun j b=>h.ok.c j (by omega),fun j b=>h.ok.v j (by omega),fun j b=>h.ok.a j (by omega)⟩,h.sm,h.tm,fun j b=>h.e j (by omega),fun j b=>h.f j (by omega)⟩
def QC(T:List Tk)(S:List Sm)(x y:Xs)(a j:Nat):Bool:=((aq S j).k.toList == [36,100])&&(!(x.toList==y.toList)&&(aK (bB T (aq S j).h) x&&(aK (bB T (aq S j).h) y&&aO S j a)))
def eB(T:List Tk)(S:List Sm)(x y:Xs)(a:Nat):Bool:=(List.range a).any (QC T S x y a)
theorem fO{l:List UInt8}(h:(M.toList==l)=true)(a:(l == [36,46])=false/\(l == [36,123])=false/\(l == [36,125])=false):ce M=false:=by
 have:M.toList=l:=by simpa using h
 unfold ce;rw[this,a.1,a.2.1,a.2.2];rfl
set_option maxRecDepth 100000
theorem xe(T:List Tk)(n:Xu)(V:Nat)(S:List Sm)(R:Xu)(U:Nat)(w:World)(hD:gy w L T n V S R U)(E:pA T S y) :
  Calls prog 95 #[pointer (some ⟨L,0,none⟩),string i,string H,int i64 y] w fun e F=>e=returned (bool (eB T S i H y))/\ae [] w F:=by
 have O:Xr _:=hD;have hn:=E.ok.m;have hS:=E.ok.s;have hT:=E.ok.t;have P:Xr _:=E;clear hD E;go_enter func95,ntmps95;go_wp2
 go_loopg [9] y (fun g al wr=>∃k:Nat,k<=y/\g=y-k/\al=int i64 k/\Xr (∀j,j<k->QC T S i H y j=false)/\Xr (ae [] w wr))
 ·exact⟨0,by omega,rfl,rfl,(fun j hj=>by omega),ae.refl _ _⟩
 obtain⟨k,hk,hg,rfl,G,r⟩:=hrel;by_cases C:k<y
 ·have d:k<S.length:=by omega
  have z:Xr _:=gy.XE O.o r.o;obtain⟨-,c1,hb⟩:=z.o.cells;obtain⟨gs,rfl,ag,-,-,-,q3⟩:=z.o.s.2 k S[k] (Tn d);have ai:(k:Int)<(y:Int):=by omega
  have ad:(k:Int)<S.length:=by omega
  have l:Xr (QC T S i H y k=((S[k].k.toList == [36,100])&&(!(i.toList==H.toList)&&(aK (bB T S[k].h) i&&(aK (bB T S[k].h) H&&aO S k y))))):=ci (by unfold QC;rw[bW S k d]);have A:Xr ((S[k].k.toList == [36,100])=true->dV T S[k].h):=fun h=>by have:=P.o.e k C;rw[<-bW S k d]at this;exact this (fO h (by decide))
  have N:Xr ((S[k].k.toList == [36,100])=true->∀b,ae [] w b->Calls prog 73 #[pointer (some ⟨L,0,none⟩),int i64 k] b fun e F=>∃W,e=returned (slice W.ao (bB T S[k].h).length W.cap)/\zD b F W (bB T S[k].h)):=fun h b Y=>mq L k T n V S _ U b (gy.XE O.o Y) d hT (A.o h);have af:=lT T S[k].h;have u:Xr (∀b,ae [] w b->Calls prog 93 #[pointer (some ⟨L,0,none⟩),int i64 k,int i64 y] b fun e F=>e=returned (bool (aO S k y))/\F=b):=fun b Y=>lR L k y T n V S _ U b (gy.XE O.o Y) (by omega) hn hS;clear A;generalize bB T S[k].h=B at *;generalize S[k].k=sk at *;obtain⟨ac,Q⟩:=bn (aO S k y);rw[Q.o]at l u;cases X:(sk.toList == [36,100])
  ·have c:Xr _:=eZ G.o (by rw[l.o,X];rfl);go_wp2;go_roundg (y-(k+1))
   ·exact⟨k+1,by omega,rfl,by go_num,c,r⟩
   omega
  ·cases h2:(i.toList==H.toList)
   ·have M:Xr _:=N.o X;(go_upto_region 6 with (go_at_call 73;refine(M.o _ (by exact r.o)).mono ?_;rintro e Z ⟨I,rfl,J⟩));have f:Xr _:=r.o.trans J.XR;have v:Xr _:=(kO B I.ao I.cap i Z J.X9.srcX (by omega));have x:Xr _:=(kO B I.ao I.cap H Z J.X9.srcX (by omega));have K:Xr _:=u.o Z f.o;clear J c1 q3;obtain⟨p,Hp⟩:=bn (aK B i);rw[Hp.o]at v l;obtain⟨q,Hq⟩:=bn (aK B H);rw[Hq.o]at x l;(go_upto_region 7 with (go_at_call 94;refine Ts v.o ?_;rintro e w9 ⟨rfl,a⟩;rw[a];clear a));(go_upto_region 8 with (go_at_call 94;refine Ts x.o ?_;rintro e w9 ⟨rfl,a⟩;rw[a];clear a));(go_upto_region 9 with (go_at_call 93;refine Ts K.o ?_;rintro e w9 ⟨rfl,a⟩;rw[a];clear a));cases D:(p&&(q&&ac))
    ·have c:Xr _:=eZ G.o (by rw[l.o,D];simp);cases p <;> cases q <;> cases ac <;> first | (exact absurd D (by decide)) | skip
     all_goals
      go_wp2;go_roundg (y-(k+1))
      ·exact⟨k+1,by omega,rfl,by go_num,c,f⟩
      omega
    ·have c:Xr (eB T S i H y=true):=nc k C (by rw[l.o,X,h2,D];rfl);simp only[Bool.and_eq_true]at D;obtain⟨rfl,rfl,rfl⟩:=D;go_wp2;go_ret;exact⟨aF c.o.symm,f.o⟩
   ·have c:Xr _:=eZ G.o (by rw[l.o,h2];simp);go_wp2;go_roundg (y-(k+1))
    ·exact⟨k+1,by omega,rfl,by go_num,c,r⟩
    omega
 ·have c:Xr (eB T S i H y=false):=uQ (fun j hj=>G.o j (by omega));go_wp2;go_ret;exact⟨aF c.o.symm,r.o⟩
structure ip(w wr:World)(h:Hd)(r:eR):Prop where
 X9:aB wr h r
 far:∀k,h.XS=some k->w.heap.size<=k
 XR:ae [] w wr
theorem ip.XE(a:ip n x k z1)(b:ae [] x o):ip n o k z1:=⟨a.X9.XE b,a.far,a.XR.trans b⟩
theorem ip.XO{f:eR}(a:ip n x k z1)(g:bq x o k I)(i:aB o I f):ip n o I f:=by
 refine⟨i,fun c b=>?_,⟨g.XR.os.trans a.XR.os,g.XR.tape.trans a.XR.tape,g.XR.output.trans a.XR.output,TF a.XR.size g.XR.size,fun c b _=>?_⟩⟩
 ·rcases g.XS with e | ⟨q,e,d⟩
  ·exact a.far c (by rw[<-e];exact b)
  ·rw[e]at b;cases b;exact TF a.XR.size d
 ·rw[g.XR.block c (Tw b a.XR.size) (fun d=>by have:=a.far _ (aQ d);omega),a.XR.block c b (by simp)]
theorem zD.toL(a:zD n x k z2):ip n x k (aE z2):=⟨a.X9,a.far,a.XR⟩
theorem ip.base(a:ip x o k z1)(b:ae [] n x):ip n o k z1:=⟨a.X9,fun q c=>TF b.size (a.far q c),b.trans a.XR⟩
theorem bq.beside(g:bq n x k I)(b:aB n N z1)(a:∀d,N.XS=some d->k.XS≠some d):aB x N z1 :=
 b.XJ (fun q c=>g.XR.block q (b.lt c) (fun e=>a q c (aQ e)))
theorem pt{P:Program}{l:Array Oper}{d:List Oper}{o:Oper}{a:Act}{Q:Exit->Act->World->Prop}(L:o.guard=none)(s x:Operand)(t:TypeId)(v:o.op=Op.call { callee:=Callee.builtin Builtin.append,args:=#[s,x],argTypes:=#[t,t] })(i:TypeInfo)(z:Value)(c:Nat)(h:Hd)(r:eR)(b:List Value)(C:P.underlying t=some (.slice r.e))(D:P.info? r.e=some i)(E:i.zero=some z)(F:i.size=r.size)(G:i.bytes=c)(H:z.cells.size=r.size)(I:0<r.size)(O:a.eval s=slice h.ao r.n h.cap)(k:aB T h r)(U:r.n<=1000000)(K:c<=1000)(R:a.eval x=slice (some ⟨T.heap.size,0,none⟩) 1 1)(V:b.length=r.size)(p:∀u∈b,u.oneCell'=true)(J:∀m y,aB y m ⟨r.e,r.size,r.n+1,r.xs++b⟩->bq T y h m->wpList P l Q d (a.put o.dst (slice m.ao (r.n+1) m.cap)) y) :
  wpList P l Q (o :: d) a (T.alloc (.cells b.toArray r.e)):=by
 have A:ae [] T (T.alloc (.cells b.toArray r.e)):=bR.alloc _;have N:(T.alloc (.cells b.toArray r.e)).heap[T.heap.size]?=some (.cells b.toArray r.e):=Tu _ _;refine aL _ L s x t v i z c h r C D E F G H I O (k.XE A) ⟨T.heap.size,0,none⟩ 1 1 b R (by omega) ?_ p TR (by unfold maxLen;omega) (TF (VL (show r.n+1<=1000001 by omega) K) (by omega)) ?_
 ·intro j u M;rw[bY,ah N];simpa using M
 ·intro B f S w g q;exact J ⟨some ⟨B,0,none⟩,f⟩ S w ((bq.XE A).trans (bq.made g q))
def sD(w:World)(ao:Xu)(L:Xv):Prop:=∀(k n:Nat),L[k]?=some n->∃g,ao=some ⟨g,0,none⟩/\g<w.heap.size/\w.cell? ⟨g,k,none⟩=some (int i64 n)
theorem sD.XE(h:sD n z0 D)(k:ae [] n x):sD x z0 D:=by
 intro j d c;obtain⟨g,e,a,b⟩:=h j d c;exact⟨g,e,Tw a k.size,by rw[TO (k.block g a (by simp))];exact b⟩
theorem ie.XE(h:ie n z0 z2)(k:ae [] n x):ie x z0 z2:=by
 intro j d c;obtain⟨g,e,a,b⟩:=h j d c;exact⟨g,e,Tw a k.size,by rw[TO (k.block g a (by simp))];exact b⟩
theorem aB.srcN(o:aB n k (bD D)):sD n k.ao D:=by
 intro f x c;rcases o.XP with ⟨_,b,_⟩ | ⟨g,d,a,e,i,-⟩
 ·have b:D.length=0:=b;have:=(TA.1 c).1;omega
 ·exact⟨g,a,aj e,o.cell a f (int i64 x) (by simp[bD,kj,c])⟩
theorem uv(L:Xv)(n:Nat):(⟨(bD L).e,(bD L).size,(bD L).n+1,(bD L).xs++[int i64 n]⟩:eR)=bD (L++[n]):=by
 simp[bD,kj]
theorem D0(L M:Xt):(⟨(aE L).e,(aE L).size,(aE L).n+M.length,(aE L).xs++dL M⟩:eR)=aE (L++M):=by
 simp[aE,dL]
theorem Bp:(prog.info? 3).map (fun i=>(i.zero,i.size,i.bytes))=some (some (int i64 0),1,8):=by kernel_rfl
theorem ie.cells(h:ie n z0 z2):∀b,z0=some b->∀j u,(dL z2)[j]?=some u->n.cell? (b.add j)=some u:=by
 intro b e j u a;rw[dL,Ua]at a;cases d:z2[j]? with
 | none=>rw[d]at a;cases a
 | some x =>
  rw[d]at a;cases a
  obtain⟨g,f,-,c⟩:=h j x d;rw[e]at f;cases f
  rw[bY];simpa using c
def yV(S:List Sm)(a j:Nat):Bool:=((aq S j).k.toList == [36,101])&&aO S j a
def kL(T:List Tk)(S:List Sm)(a k:Nat):Xt:=bB T (aq S a).h++((List.range k).filter (yV S a)).flatMap (fun j=>bB T (aq S j).h)
def uI(T:List Tk)(S:List Sm)(a:Nat):Xt:=kL T S a a
def t7(T:List Tk)(S:List Sm)(a:Nat)(U:Xt)(j:Nat):Bool:=aO S j a&&(((aq S j).k.toList == [36,101])||(((aq S j).k.toList == [36,102])&&aK U (tS T ((aq S j).h+1))))
def a9(T:List Tk)(S:List Sm)(a:Nat):Xv:=(List.range a).filter (t7 T S a (uI T S a))
theorem fZ(p:Nat->Bool)(k:Nat):(List.range (k+1)).filter p=(List.range k).filter p++(if p k=true then [k] else []):=by
 rw[UU,UI];congr 1;cases h:p k
 ·rw[U9 (by rw[h];simp)];rfl
 ·rw[Vm h];rfl
theorem Ow(h:yV w v l=true):kL b w v (l+1)=kL b w v l++bB b (aq w l).h:=by
 unfold kL;rw[fZ,Tr h,U4,U5];simp
theorem Qv(h:yV w v l=false):kL b w v (l+1)=kL b w v l:=by
 unfold kL;rw[fZ,Tp (by rw[h];simp),TY]
theorem O4(c:(M.toList == [36,101])=true)(a:(M.toList == [36,102])=true):False:=by
 have b:M.toList=[36,101]:=by simpa using c
 rw[b]at a;exact absurd a (by decide)
theorem rx(hD:gy T y b s t w z3 l)(V:pA b w S)(hn:S<w.length)(hE:dV b (aq w S).h) :
  Calls prog 63 #[pointer (some ⟨y,0,none⟩),int i64 S] T fun e P=>∃c,e=returned (slice c.ao (a9 b w S).length c.cap)/\ip T P c (bD (a9 b w S)):=by
 have HD:Xr _:=hD;have hS:=V.ok.s;have hT:=V.ok.t;have bk:=V.sm;have bl:=V.tm;have ai:Xr _:=V;have Y:Xr (∀E,ae [] T E->Calls prog 73 #[pointer (some ⟨y,0,none⟩),int i64 S] E fun e P=>∃c,e=returned (slice c.ao (bB b w[S].h).length c.cap)/\zD E P c (bB b w[S].h)):=fun E kx=>mq y S b s t w _ l E (hD.XE kx) hn hT (by rw[bW w S hn];exact hE);have K:Xr _:=Y.o T (ae.refl _ _);rw[bW w S hn]at K;have a2:Xr (kL b w S 0=bB b (aq w S).h):=ci (by unfold kL;simp);have bs:=lT b (aq w S).h;obtain⟨iS,bc,av,ax,az⟩:=TZ kg;obtain⟨iN,an,H,I,J⟩:=TZ Bp;clear hD V Y;generalize bB b (aq w S).h=B0 at *;go_enter func63,ntmps63;go_upto_region 2 with (go_at_call 73;refine Ts K.o ?_;rintro e w0 ⟨h0,rfl,x0⟩)
 have a3:Xr _:=x0.toL;clear x0 K;go_wp2
 go_loopg [5,6] S (fun g u i wr=>∃(k:Nat) (c:Hd) (O:Xt),k<=S/\g=S-k/\u=slice c.ao O.length c.cap/\i=int i64 k/\O.length<=10000*(k+1)/\Xr (O=kL b w S k)/\Xr (ip T wr c (aE O)))
 ·exact⟨0,h0,B0,by omega,rfl,rfl,rfl,by omega,a2.o.symm,a3⟩
 obtain⟨k,c,O,hk,hg,rfl,rfl,hO,G,r⟩:=hrel;by_cases be:k<S
 ·have p:k<w.length:=by omega
  have n:Xr _:=gy.XE HD.o r.o.XR;obtain⟨-,c1,hb⟩:=n.o.cells;obtain⟨gs,rfl,ba,-,-,-,q3⟩:=n.o.s.2 k w[k] (Tn p);have bd:(k:Int)<(S:Int):=by omega
  have ap:(k:Int)<w.length:=by omega
  have A:Xr (yV w S k=((w[k].k.toList == [36,101])&&aO w k S)):=ci (by unfold yV;rw[bW w k p]);have aT:Xr ((w[k].k.toList == [36,101])=true->Calls prog 73 #[pointer (some ⟨y,0,none⟩),int i64 k] wr fun e P=>∃c,e=returned (slice c.ao (bB b w[k].h).length c.cap)/\zD wr P c (bB b w[k].h)):=fun h=>mq y k b s t w _ l wr n.o p hT (by have:=ai.o.e k be;rw[<-bW w k p]at this;exact this (fO h (by decide)));have HY:Xr (yV w S k=true->O++bB b w[k].h=kL b w S (k+1)):=fun h=>by rw[Ow b w S k h,<-G.o,bW w k p]
  have R:Xr (yV w S k=false->O=kL b w S (k+1)):=fun h=>by rw[Qv b w S k h,<-G.o]
  have bg:=lT b w[k].h;have j:Xr _:=(lR y k S b s t w _ l wr n.o (by omega) (by omega) hS);generalize bB b w[k].h=B at *;generalize w[k].k=W at *;obtain⟨ac,N⟩:=bn (aO w k S);rw[N.o]at A j;cases F:(W.toList == [36,101])
  ·have x:Xr _:=R.o (by rw[A.o,F];rfl);go_wp2_with (go_at_call 93;refine Ts j.o ?_;rintro e Q ⟨rfl,a⟩;rw[a];clear a);go_roundg (S-(k+1))
   ·exact⟨k+1,c,O,by omega,rfl,rfl,by go_num,by omega,x,r⟩
   omega
  ·cases ac
   ·have x:Xr _:=R.o (by rw[A.o,F];rfl);go_wp2_with (go_at_call 93;refine Ts j.o ?_;rintro e Q ⟨rfl,a⟩;rw[a];clear a);go_roundg (S-(k+1))
    ·exact⟨k+1,c,O,by omega,rfl,rfl,by go_num,by omega,x,r⟩
    omega
   ·have x:Xr _:=HY.o (by rw[A.o,F];rfl);have aS:Xr _:=aT.o F;(go_upto_region 8 with (first | (go_at_call 93;refine Ts j.o ?_;rintro e Q ⟨rfl,a⟩;rw[a];clear a) | (go_at_call 73;refine Ts aS.o ?_;rintro e w2 ⟨z,rfl,x2⟩)));have ag:Xr _:=r.o.XE x2.XR;have a6:Xr _:=x2.X9.srcX.cells;have ad:Xr _:=x2.XR;have bf:z.ao=none->B.length=0/\z.cap=0:=fun e=>by
     rcases x2.X9.XP with ⟨q1,q2,q3⟩ | ⟨g,bj,q1,-⟩
     ·exact⟨q2,by rw[q1]⟩
     ·rw[e]at q1;cases q1
    clear x2 c1 q3;go_wp2_with (at_builtin;refine fh _ rfl (.tmp 40) (.tmp 41) 61 rfl iS (string ⟨#[]⟩) 16 c (aE O) underlying61 bc av ax az rfl TR rfl ag.o.X9 z.ao B.length z.cap (dL B) rfl (by simp[aE,dL]) bf a6.o (mM B) (by simp only[aE];omega) (by omega) ?_;intro h5 w5 d q;rw[D0]at d;have C:Xr _:=ag.o.XO q d;clear d q);go_roundg (S-(k+1))
    ·exact⟨k+1,h5,O++B,by omega,rfl,by simp[aE],by go_num,by simp;omega,x,C⟩
    omega
 ·have e:k=S:=by omega
  subst e;obtain⟨U,HU⟩:=bn (uI b w k);have e2:O=U:=by rw[<-HU.o,G.o];rfl
  subst e2;have HX:Xr _:=r.o.X9.srcX;have af:Xr _:=r.o.XR;have HR:Xr (a9 b w k=(List.range k).filter (t7 b w k O)):=ci (by unfold a9;rw[HU.o]);have a1:Xr (ip wr wr ⟨none,0⟩ (bD [])):=⟨Ty _ _ _ _,(by intro k hk;cases hk),ae.refl _ _⟩;clear r G;go_wp2
  go_loopg [9,10] k (fun g o i w2=>∃(m:Nat) (z:Hd) (L:Xv),m<=k/\g=k-m/\o=slice z.ao L.length z.cap/\i=int i64 m/\L.length<=m/\Xr (L=(List.range m).filter (t7 b w k O))/\Xr (ip wr w2 z (bD L)))
  ·exact⟨0,⟨none,0⟩,[],by omega,rfl,rfl,rfl,by simp,rfl,a1⟩
  obtain⟨m,z,L,hm,bp,rfl,rfl,hL,G,r⟩:=hrel;by_cases ar:m<k
  ·have p:m<w.length:=(by omega);have ad:Xr _:=af.o.trans r.o.XR;have n:Xr _:=gy.XE HD.o ad.o;obtain⟨c0,c1,hb⟩:=n.o.cells;obtain⟨gs,rfl,ba,-,-,q2,q3⟩:=n.o.s.2 m w[m] (Tn p);have bd:(m:Int)<(k:Int):=(by omega);have ap:(m:Int)<w.length:=(by omega);have A:Xr (t7 b w k O m=(aO w m k&&((w[m].k.toList == [36,101])||((w[m].k.toList == [36,102])&&aK O (tS b (w[m].h+1)))))):=ci (by unfold t7;rw[bW w m p]);have a0:Xr ((w[m].k.toList == [36,102])=true->w[m].h+1<b.length):=fun h=>by have:=ai.o.f m ar;rw[<-bW w m p]at this;exact this h
   have HY:Xr (t7 b w k O m=true->L++[m]=(List.range (m+1)).filter (t7 b w k O)):=fun h=>by rw[fZ,Tr h,<-G.o]
   have R:Xr (t7 b w k O m=false->L=(List.range (m+1)).filter (t7 b w k O)):=fun h=>by rw[fZ,Tp (by rw[h];simp),TY,<-G.o]
   have j:Xr _:=(lR y m k b s t w _ l wr n.o (by omega) (by omega) hS);obtain⟨ac,N⟩:=bn (aO w m k);rw[N.o]at A j;generalize w[m].k=W at *;generalize w[m].h=D at *;obtain⟨v,Hv⟩:=bn (tS b (D+1));rw[Hv.o]at A;have X:Xr (∀E,ae [] wr E->Calls prog 94 #[slice c.ao O.length c.cap,string v] E fun e P=>e=returned (bool (aK O v))/\P=E):=fun E kx=>kO O c.ao c.cap v E (ie.XE HX.o (r.o.XR.trans kx)) (by omega);obtain⟨hs,a4⟩:=bn (aK O v);rw[a4.o]at X A;have a5:=r.o.X9;cases ac
   ·have x:Xr _:=R.o (by rw[A.o];rfl);go_wp2_with (go_at_call 93;refine Ts j.o ?_;rintro e Q ⟨rfl,a⟩;rw[a];clear a);go_roundg (k-(m+1))
    ·exact⟨m+1,z,L,by omega,rfl,rfl,by go_num,by omega,x,r⟩
    omega
   ·cases F:(W.toList == [36,101])
    ·cases h3:(W.toList == [36,102])
     ·have x:Xr _:=R.o (by rw[A.o,F,h3];rfl);go_wp2_with (go_at_call 93;refine Ts j.o ?_;rintro e Q ⟨rfl,a⟩;rw[a];clear a);go_roundg (k-(m+1))
      ·exact⟨m+1,z,L,by omega,rfl,rfl,by go_num,by omega,x,r⟩
      omega
     ·have a7:=a0.o h3;obtain⟨gT,rfl,br,t0,-⟩:=n.o.t.2 (D+1) _ (jd b (D+1) a7);replace t0:wr.cell? ⟨gT,(D+1)*5,none⟩=some (string (tS b (D+1))):=t0;rw[Hv.o]at t0;have bo:(D:Int)+1<b.length:=(by omega);have bx:IntKind.i64.wrap ((D:Int)+1)=(D:Int)+1:=(by rw[UX];omega);have bw:((D:Int)+1).toNat=D+1:=(by omega);have bv:(0:Int)<=(D:Int)+1:=(by omega);(go_upto_region 17 with (go_at_call 93;refine Ts j.o ?_;rintro e Q ⟨rfl,a⟩;rw[a];clear a));have M:Xr _:=r.o.XE (ae.refl [] wr).drew;have al:=M.o.X9;go_region_with (go_at_call 94;refine(X.o _ (by exact(ae.refl [] wr).drew)).mono ?_;rintro e Q ⟨rfl,a⟩;rw[a];clear a)
      all_goals
       clear c0 q2 t0;cases hs
       ·have x:Xr _:=R.o (by rw[A.o,F,h3];rfl);go_wp2;go_roundg (k-(m+1))
        ·exact⟨m+1,z,L,by omega,rfl,rfl,by go_num,by omega,x,M⟩
        omega
       ·have x:Xr _:=HY.o (by rw[A.o,F,h3];rfl);go_wp2_with (at_builtin;refine pt _ rfl (.tmp 93) (.tmp 95) 24 rfl iN (int i64 0) 8 z (bD L) [int i64 m] underlying24 an H I J rfl TR rfl al (by simp only[bD];omega) (by omega) rfl rfl (by simp[Value.oneCell']) ?_;intro h5 w5 d q;rw[uv]at d;have C:Xr _:=M.o.XO q d;clear d q);go_roundg (k-(m+1))
        ·exact⟨m+1,h5,L++[m],by omega,rfl,by simp[bD],by go_num,by simp;omega,x,C⟩
        omega
    ·have x:Xr _:=HY.o (by rw[A.o,F];rfl);have h3:(W.toList == [36,102])=false:=by
      cases h:(W.toList == [36,102])
      ·rfl
      ·exact(O4 F h).elim
     go_wp2_with (first | (go_at_call 93;refine Ts j.o ?_;rintro e Q ⟨rfl,a⟩;rw[a];clear a) | (at_builtin;refine pt _ rfl (.tmp 93) (.tmp 95) 24 rfl iN (int i64 0) 8 z (bD L) [int i64 m] underlying24 an H I J rfl TR rfl a5 (by simp only[bD];omega) (by omega) rfl rfl (by simp[Value.oneCell']) ?_;intro h5 w5 d q;rw[uv]at d;have C:Xr _:=r.o.XO q d;clear d q));go_roundg (k-(m+1))
     ·exact⟨m+1,h5,L++[m],by omega,rfl,by simp[bD],by go_num,by simp;omega,x,C⟩
     omega
  ·have e:m=k:=(by omega);subst e;rw[<-HR.o]at G;have Z:Xr (a9 b w m=L):=G.o.symm;go_wp2;go_ret;exact⟨z,by rw[Z.o];rfl,by rw[Z.o];exact r.o.base af.o⟩
def dY(T:List Tk)(S:List Sm)(a:Nat)(x:Xs):Int :=
 if bC T S x a<0 then -1 else if(aA (aq S (bC T S x a).toNat).k||aO S (bC T S x a).toNat a)=true then bC T S x a else -1
theorem sg:bC b w H l=-1∨∃k,k<l/\bC b w H l=(k:Int):=by
 unfold bC;cases h:(List.range l).find? (mP b w H) with
 | none=>exact TH rfl
 | some j=>exact TE ⟨j,TG.1 (Us h),rfl⟩
theorem rh:dY b w v H=-1∨∃k,k<v/\dY b w v H=(k:Int):=by
 unfold dY;split
 ·exact TH rfl
 ·next h =>
  split
  ·rcases sg b w H v with e | ⟨k,a,e⟩
   ·omega
   ·exact TE ⟨k,a,e⟩
  ·exact TH rfl
theorem yU(G:gy T L b s t w z3 l)(C:pA b w y) :
  Calls prog 129 #[pointer (some ⟨L,0,none⟩),int i64 y,string i] T fun e g=>e=returned (int i64 (dY b w y i))/\ae [] T g:=by
 have n:Xr _:=pH L y i b s t w z3 l T G C.ok.m C.ok.s C.ok.a;have d:Xr (dY b w y i=if bC b w i y<0 then -1 else if(aA (aq w (bC b w i y).toNat).k||aO w (bC b w i y).toNat y)=true then bC b w i y else -1):=rfl;generalize dY b w y i=R at *;have X:=C.ok.m;have W:=C.ok.s;rcases sg b w i y with e | ⟨k,Z,e⟩
 ·rw[e]at n d;rw[Tr (by omega)]at d;go_enter func129,ntmps129;go_wp2_with (go_at_call 172;refine Ts n.o ?_;rintro e Q ⟨rfl,B⟩;have f:Xr _:=B;clear B);go_ret;exact⟨au d.o.symm,f.o⟩
 ·rw[e]at n d;rw[Tp (by omega),Ur]at d;have z:k<w.length:=by omega
  have O:(k:Int)<w.length:=by omega
  have P:(0:Int)<=(k:Int):=by omega
  obtain⟨D,r⟩:=bn ((aq w k).k);have S:Xr (∀g,ae [] T g->∃q,z3=some ⟨q,0,none⟩/\q<g.heap.size/\g.cell? ⟨q,k*4+3,none⟩=some (string D)/\g.cell? ⟨L,1,none⟩=some (slice z3 w.length l)/\L<g.heap.size/\Calls prog 93 #[pointer (some ⟨L,0,none⟩),int i64 k,int i64 y] g fun e J=>e=returned (bool (aO w k y))/\J=g):=fun g Y=>by
   have H:=G.XE Y;obtain⟨-,M,N⟩:=H.cells;obtain⟨q,U,x,-,-,-,I⟩:=H.s.2 k w[k] (Tn z);rw[bW w k z,r.o]at I;exact⟨q,U,x,I,M,N,lR L k y b s t w _ l g H (by omega) X W⟩
  rw[r.o]at d;clear G;go_enter func129,ntmps129;go_upto_region 4 with (go_at_call 172;refine Ts n.o ?_;rintro e Q ⟨rfl,B⟩;have f:Xr _:=B;clear B)
  obtain⟨q,rfl,x,I,M,N,v⟩:=S.o Q f.o;have j:Xr _:=v;clear v;obtain⟨K,F⟩:=bn (aO w k y);rw[F.o]at j d;obtain⟨u,p⟩:=bn (aA D);rw[p.o]at d;cases A:(u||K)
  ·rw[A]at d;simp only[Bool.or_eq_false_iff]at A;obtain⟨rfl,rfl⟩:=A;rw[Tp (by simp)]at d;go_wp2_with (first | (go_at_call 93;refine Ts j.o ?_;rintro e E ⟨rfl,c⟩;rw[c];clear c) | (go_at_call 123;refine(gZ D _).mono ?_;rintro e E ⟨rfl,c⟩;rw[c,p.o];clear c));go_ret;exact⟨au d.o.symm,f.o⟩
  ·rw[A,Tr rfl]at d;cases u
   ·have V:K=true:=(by simpa using A);subst V;go_wp2_with (first | (go_at_call 93;refine Ts j.o ?_;rintro e E ⟨rfl,c⟩;rw[c];clear c) | (go_at_call 123;refine(gZ D _).mono ?_;rintro e E ⟨rfl,c⟩;rw[c,p.o];clear c));go_ret;exact⟨au d.o.symm,f.o⟩
   ·go_wp2_with (first | (go_at_call 93;refine Ts j.o ?_;rintro e E ⟨rfl,c⟩;rw[c];clear c) | (go_at_call 123;refine(gZ D _).mono ?_;rintro e E ⟨rfl,c⟩;rw[c,p.o];clear c));go_ret;exact⟨au d.o.symm,f.o⟩
def gN(T:List Tk)(S:List Sm)(j:Int):Nat:=if j<0 then 0 else if aA (aq S j.toNat).k=true then(a9 T S j.toNat).length else 0
set_option maxRecDepth 512
theorem Kk(v:Value)(T:List Tk)(S:List Sm)(w:World) :
  Calls prog 130 #[v,int i64 (-1)] w fun e b=>e=returned (int i64 (gN T S (-1):Nat))/\ae [] w b:=by
 have a:Xr (gN T S (-1)=0):=rfl;go_enter func130,ntmps130;go_wp2;go_ret;exact⟨by rw[a.o];rfl,ae.refl _ _⟩
set_option maxRecDepth 100000
theorem Ad(j:gy T L b s t w z3 l)(k:pA b w y)(D:S<y) :
  Calls prog 130 #[pointer (some ⟨L,0,none⟩),int i64 S] T fun e q=>e=returned (int i64 (gN b w S:Nat))/\ae [] T q:=by
 have K:=k.ok.m;have c:S<w.length:=by omega
 have p:¬(S:Int)<0:=by omega
 have x:(S:Int)<w.length:=by omega
 have z:(0:Int)<=(S:Int):=by omega
 have d:Xr (gN b w S=if aA (aq w S).k=true then(a9 b w S).length else 0):=ci (by unfold gN;rw[Tp p,Ur]);obtain⟨-,G,J⟩:=j.cells;obtain⟨I,rfl,C,-,-,-,E⟩:=j.s.2 S w[S] (Tn c);rw[bW w S c]at E
 have B:Xr (aA (aq w S).k=true->Calls prog 63 #[pointer (some ⟨L,0,none⟩),int i64 S] T fun e q=>∃f,e=returned (slice f.ao (a9 b w S).length f.cap)/\ip T q f (bD (a9 b w S))):=fun h=>rx L S b s t w _ l T j (k.mono (by omega)) c (k.e S D (by
  unfold aA at h
  rcases Ul _ _ ▸ h with h | h <;> exact fO h (by decide)))
 have r:Xr (aA (aq w S).k=(((aq w S).k.toList == [36,97])||((aq w S).k.toList == [36,112]))):=rfl;clear j k;generalize gN b w S=R at *;generalize (aq w S).k=A at *;generalize aA A=n at *;cases n
 ·rw[Tp (by simp)]at d;have i:=r.o.symm;simp only[Bool.or_eq_false_iff]at i;obtain⟨v,H⟩:=i;go_enter func130,ntmps130;go_wp2;go_ret;exact⟨by rw[d.o];rfl,ae.refl _ _⟩
 ·rw[Tr rfl]at d;have u:Xr _:=B.o rfl;have i:=r.o.symm;cases v:(A.toList == [36,97])
  ·rw[v,UN]at i;go_enter func130,ntmps130;go_wp2_with (go_at_call 63;refine Ts u.o ?_;rintro e F ⟨f,rfl,g⟩;have a:Xr _:=g.XR;clear g);go_ret;exact⟨by rw[d.o];rfl,a.o⟩
  ·go_enter func130,ntmps130;go_wp2_with (go_at_call 63;refine Ts u.o ?_;rintro e F ⟨f,rfl,g⟩;have a:Xr _:=g.XR;clear g);go_ret;exact⟨by rw[d.o];rfl,a.o⟩
def Pw(m:Nat):Xs:=⟨#[UInt8.ofNat (65+m % 20)]⟩
def Fz(m:Nat):Xs:=⟨#[UInt8.ofNat (85+m % 5)]⟩
def vX:Nat->Nat->Xs->Xs
 | 0,_,s=>s
 | f+1,h,s=>if 0<h then vX f ((h-1) / 5) (Fz (h-1)++s) else s
def mA(m:Nat):Xs:=vX (m+1) (m / 20) (Pw m)
theorem J1:(convert 312 9 (slice (some ⟨T.heap.size,0,none⟩) 1 1)).run prog (T.alloc (.cells #[int u8 (65+(l:Int) % 20)] 5))=.ok (string (Pw l)) (T.alloc (.cells #[int u8 (65+(l:Int) % 20)] 5)):=by
 have e:(65+(l:Int) % 20)=((UInt8.ofNat (65+l % 20)).toNat:Int):=by
  rw[UInt8.toNat_ofNat'];omega
 rw[e]
 exact Wv (T.alloc (.cells #[int u8 ((UInt8.ofNat (65+l % 20)).toNat:Int)] 5)) 312 9 5 ⟨T.heap.size,0,none⟩ 1 [UInt8.ofNat (65+l % 20)] underlying312 underlying5 underlying9 (by
  intro j a
  match j,a with
  | 0,_=>simp[Addr.add])
theorem J2:(convert 312 9 (slice (some ⟨T.heap.size,0,none⟩) 1 1)).run prog (T.alloc (.cells #[int u8 (85+(l:Int) % 5)] 5))=.ok (string (Fz l)) (T.alloc (.cells #[int u8 (85+(l:Int) % 5)] 5)):=by
 have e:(85+(l:Int) % 5)=((UInt8.ofNat (85+l % 5)).toNat:Int):=by
  rw[UInt8.toNat_ofNat'];omega
 rw[e]
 exact Wv (T.alloc (.cells #[int u8 ((UInt8.ofNat (85+l % 5)).toNat:Int)] 5)) 312 9 5 ⟨T.heap.size,0,none⟩ 1 [UInt8.ofNat (85+l % 5)] underlying312 underlying5 underlying9 (by
  intro j a
  match j,a with
  | 0,_=>simp[Addr.add])
theorem Fy:vX v 0 H=H:=by cases v <;> rfl
theorem Dr(z:l<=1000000000) :
  Calls prog 241 #[int i64 ((l:Int)+1)] T fun e v=>e=returned (string (mA l))/\ae [] T v:=by
 have a:=fun k=>J1 l k;have b:0<=(l:Int) % 20/\(l:Int) % 20<=19:=by omega
 go_enter func241,ntmps241;go_wp2
 go_loopg [3,4] (l / 20) (fun g u t wr=>∃(f h:Nat) (s:Xs),g=h/\t=int i64 h/\u=string s/\h<=f/\h<=1000000000/\s.size+f<=1000000003/\Xr (vX f h s=mA l)/\Xr (ae [] T wr))
 ·exact⟨l+1,l / 20,Pw l,rfl,by simp,rfl,by omega,by omega,(by show 1+_<=_;omega),rfl,(ae.refl _ _).alloc _⟩
 obtain⟨f,h,s,x,rfl,rfl,w,y,A,m,n⟩:=hrel;clear a b;cases h with
 | zero =>
  have d:Xr (s=mA l):=ci (by rw[<-m.o,Fy]);go_wp2;go_ret;exact⟨by rw[<-d.o];rfl,n.o⟩
 | succ q =>
  obtain⟨c,rfl⟩:∃c,f=c+1:=⟨f-1,by omega⟩
  have a:=fun k=>J2 q k;have p:0<=(q:Int) % 5/\(q:Int) % 5<=4:=by omega
  have r:(0:Int)<(q:Int)+1:=by omega
  have d:Xr (vX c (q / 5) (Fz q++s)=mA l):=by
   show _=_;rw[<-m.o,vX,Tr (by omega),UM]
  have j:(Fz q).size=1:=rfl;have i:Xr ((Fz q++s).size=1+s.size):=ci (by rw[ByteArray.size_append,j]);go_wp2;go_roundg (q / 5)
  ·exact⟨c,q / 5,Fz q++s,rfl,by simp,rfl,by omega,by omega,by have:=i.o;omega,d,n.o.alloc _⟩
  omega
def xZ(s:Xs)(i:Nat):Bool:=((mA i).toList==s.toList)
def gx(s:Xs)(top:Nat):Nat:=match (List.range top).find? (xZ s) with
 | some i=>i+1
 | none=>0
theorem FR(f:c<d)(h:xZ M c=true)(a:∀j,j<c->xZ M j=false):gx M d=c+1:=by
 have e:(List.range d).find? (xZ M)=some c:=by
  rw[UT];exact⟨h,TG.2 f,fun j b=>by rw[a j b];rfl⟩
 unfold gx;rw[e]
theorem Kq(a:∀j,j<d->xZ M j=false):gx M d=0:=by
 have e:(List.range d).find? (xZ M)=none:=by
  rw[UE];intro j b;rw[a j (TG.1 b)];simp
 unfold gx;rw[e]
theorem FQ(y:l<=1000000000) :
  Calls prog 214 #[string H,int i64 l] T fun e u=>e=returned (int i64 (gx H l:Nat))/\ae [] T u:=by
 go_enter func214,ntmps214;go_wp2
 go_loopg [5] l (fun g i wr=>∃k:Nat,k<=l/\g=l-k/\i=int i64 ((k:Int)+1)/\Xr (∀j,j<k->xZ H j=false)/\Xr (ae [] T wr))
 ·exact⟨0,by omega,rfl,by simp,(fun j s=>by omega),ae.refl _ _⟩
 obtain⟨k,x,w,rfl,f,d⟩:=hrel;by_cases n:k<l
 ·have m:(k:Int)+1<=(l:Int):=by omega
  have p:Xr _:=(Dr k wr (by omega));have q:Xr (xZ H k=((mA k).toList==H.toList)):=rfl;generalize mA k=t at *;cases r:(t.toList==H.toList)
  ·have b:Xr _:=eZ f.o (by rw[q.o,r]);go_wp2_with (go_at_call 241;refine Ts p.o ?_;rintro e v ⟨rfl,c⟩;have a:Xr _:=d.o.trans c;clear c);go_roundg (l-(k+1))
   ·exact⟨k+1,by omega,rfl,by go_num,b,a⟩
   omega
  ·have b:Xr (gx H l=k+1):=FR n (by rw[q.o,r]) f.o;go_wp2_with (go_at_call 241;refine Ts p.o ?_;rintro e v ⟨rfl,c⟩;have a:Xr _:=d.o.trans c;clear c);go_ret;exact⟨by rw[b.o];rfl,a.o⟩
 ·have b:Xr (gx H l=0):=Kq (fun j s=>f.o j (by omega));have m:¬(k:Int)+1<=(l:Int):=by omega
  go_wp2;go_ret;exact⟨by rw[b.o];rfl,d.o⟩
def lG{α:Type}(e s:Nat)(f:α->List Value)(L:List α):eR:=⟨e,s,L.length,L.flatMap f⟩
theorem Qg{α:Type}{f:α->List Value}(b:∀x,(f x).length=d)(L:List α)(j:Nat)(t:α)(h:L[j]?=some t)(c:Nat)(g:c<d):(L.flatMap f)[j*d+c]?=(f t)[c]?:=by
 induction L generalizing j with
 | nil=>cases h
 | cons a L e =>
  rw[Uv];cases j with
  | zero =>
   simp at h;subst h;rw[TQ (by rw[b];omega)];simp
  | succ j =>
   rw[TJ (by rw[b,Nat.succ_mul];omega),show(j+1)*d+c-(f a).length=j*d+c by rw[b,Nat.succ_mul];omega];exact e j (by simpa using h)
theorem iA{α:Type}(f:α->List Value)(L:List α)(x:α):(⟨(lG v l f L).e,(lG v l f L).size,(lG v l f L).n+1,(lG v l f L).xs++f x⟩:eR)=lG v l f (L++[x]):=by
 simp[lG]
def di{α:Type}(w:World)(ao:Xu)(s:Nat)(f:α->List Value)(L:List α):Prop:=∀(k:Nat) (x:α),L[k]?=some x->∃g,ao=some ⟨g,0,none⟩/\g<w.heap.size/\∀(c:Nat) (u:Value),(f x)[c]?=some u->w.cell? ⟨g,k*s+c,none⟩=some u
theorem di.XE{α:Type}{f:α->List Value}{L:List α}(h:di n z0 d f L)(k:ae [] n x):di x z0 d f L:=by
 intro j m i;obtain⟨g,e,a,b⟩:=h j m i;exact⟨g,e,Tw a k.size,fun c u l=>by rw[TO (k.block g a (by simp))];exact b c u l⟩
theorem aB.srcG{α:Type}{f:α->List Value}{L:List α}(o:aB n k (lG d c f L))(j:∀x,(f x).length=c):di n k.ao c f L:=by
 intro b x i;have q:=(TA.1 i).1;obtain⟨g,e,p,-⟩:=rD o (show 0<L.length by omega);refine⟨g,e,p,fun a u l=>o.cell e (b*c+a) u ?_⟩;have m:a<c:=by rw[<-j x];exact(TA.1 l).1
 show(L.flatMap f)[b*c+a]?=some u
 rw[Qg j L b x i a m];exact l
structure Lt where
 c:Int
 XZ:Xs
 X0:Int
 X3:Int
def Sg(l:Lt):List Value:=[int u8 l.c,string l.XZ,int i64 l.X0,int i64 l.X3]
theorem PD(l:Lt):(Sg l).length=4:=rfl
def v8(L:List Lt):eR:=lG 311 4 Sg L
theorem Q6:(prog.info? 311).map (fun i=>(i.zero,i.size,i.bytes))=some (some (agg #[int u8 0,string ⟨#[]⟩,int i64 0,int i64 0]),4,40):=by kernel_rfl
def fw(T:List Tk):Prop:=∀t∈T,t.s.size<=1024/\0<=t.X3/\t.X3<=10000
def J5(t:Tk)(k:Nat):Lt:=⟨aI t.s k,t.XZ,t.X0,t.X3+k⟩
def tn(t:Tk):List Lt:=(List.range t.s.size).map (J5 t)
def eQ(T:List Tk)(a z:Nat):List Lt:=((T.drop a).take (z-a)).flatMap tn
theorem Ej(d:v<=l)(f:l<b.length):eQ b v (l+1)=eQ b v l++tn b[l]:=by
 unfold eQ;have e:l+1-v=(l-v)+1:=by omega
 have c:l-v<(b.drop v).length:=by rw[Ux];omega
 rw[e,Up c,U4];have a:(b.drop v)[l-v]=b[l]:=by rw[Wa];congr 1;omega
 rw[a];simp
theorem Li(t:Tk)(k:Nat)(h:k<t.s.size):(tn t).take (k+1)=(tn t).take k++[J5 t k]:=by
 unfold tn;rw[Up (by simpa using h)];simp
theorem Gv(hT:lQ T s t b)(hl:b.length<=10000)(ha:v<=l)(hz:l<=b.length)(hO:fw b) :
  Calls prog 176 #[slice s b.length t,int i64 v,int i64 l] T fun e f=>∃w,e=returned (slice w.ao (eQ b v l).length w.cap)/\ip T f w (v8 (eQ b v l)):=by
 have HT:Xr _:=hT;have X:Xr (ip T T ⟨none,0⟩ (v8 [])):=⟨Ty _ _ _ _,(by intro k hk;cases hk),ae.refl _ _⟩;obtain⟨iL,af,H,I,J⟩:=TZ Q6;have R:Xr (([]:List Lt)=eQ b v v):=ci (by unfold eQ;simp);clear hT;go_enter func176,ntmps176;go_wp2
 go_loopg [7,8] (l-v) (fun g o i wr=>∃(k:Nat) (w:Hd) (O:List Lt),(v<=k/\k<=l)/\g=l-k/\o=slice w.ao O.length w.cap/\i=int i64 k/\O.length<=1024*k/\Xr (O=eQ b v k)/\Xr (ip T wr w (v8 O)))
 ·exact⟨v,⟨none,0⟩,[],⟨by omega,by omega⟩,rfl,rfl,rfl,by simp,R,X⟩
 obtain⟨k,w,O,⟨ag,ap⟩,hg,rfl,rfl,al,HE,HW⟩:=hrel;by_cases av:k<l
 ·have y:k<b.length:=by omega
  have ar:(k:Int)<(l:Int):=by omega
  have ai:(k:Int)<b.length:=by omega
  have Y:Xr (O++tn b[k]=eQ b v (k+1)):=ci (by rw[Ej b v k ag y,<-HE.o]);obtain⟨o1,o2,o3⟩:=hO b[k] (TP y);obtain⟨j,rfl,ad,-⟩:=HT.o.2 k b[k] (Tn y);have HC:Xr (∀f,ae [] T f->f.cell? ⟨j,k*5,none⟩=some (string b[k].s)/\f.cell? ⟨j,k*5+2,none⟩=some (string b[k].XZ)/\f.cell? ⟨j,k*5+3,none⟩=some (int i64 b[k].X0)/\f.cell? ⟨j,k*5+4,none⟩=some (int i64 b[k].X3)):=fun f kw=>by
   obtain⟨g,e,hg,c0,c1,c2,c3,c4⟩:=(lQ.XE HT.o kw).2 k b[k] (Tn y);cases e
   exact⟨c0,c2,c3,c4⟩
  generalize b[k]=aS at *;obtain⟨c,K,q,r,p⟩:=aS;simp only at o1 o2 o3 HC;go_wp2_with fail
  go_loopg [7,9] c.size (fun g o i wr=>∃(m:Nat) (A:Hd) (P:List Lt),m<=c.size/\g=c.size-m/\o=slice A.ao P.length A.cap/\i=int i64 m/\P.length<=O.length+m/\Xr (P=O++(tn ⟨c,K,q,r,p⟩).take m)/\Xr (ip T wr A (v8 P)))
  ·exact⟨0,w,O,by omega,rfl,rfl,rfl,by omega,by show _=_;simp,HW⟩
  obtain⟨m,A,P,hm,an,rfl,rfl,hP,D,d⟩:=hrel;obtain⟨c0,c2,c3,c4⟩:=HC.o wr d.o.XR;have G:j<wr.heap.size:=Tw ad d.o.XR.size;rcases kn m c.size with ⟨a,ax⟩ | ⟨a,-⟩
  ·have S:Xr (P++[J5 ⟨c,K,q,r,p⟩ m]=O++(tn ⟨c,K,q,r,p⟩).take (m+1)):=(by show _=_;rw[D.o,Li _ m a,U5]);have U:Xr (Sg (J5 ⟨c,K,q,r,p⟩ m)=[int u8 ((c[m]'a).toNat:Int),string q,int i64 r,int i64 (p+m)]):=ci (by unfold Sg J5;simp only;rw[bZ c m a]);obtain⟨W,z⟩:=bn (wr.alloc (.cells #[string q,int i64 r,int i64 (p+m)] 36));have N:=fI z.o;have L:=f9 z.o;have E:Xr _:=d.o.XE N;have ac:=E.o.X9;have d0:W.cell? ⟨j,k*5,none⟩=some (string c):=(by rw[TO (N.block j G (by simp))];exact c0);obtain⟨d1,d2,d3⟩:=wn L;have HS:Xr (∀x h5,bq W x A h5->x.cell? ⟨j,k*5,none⟩=some (string c)/\x.cell? ⟨wr.heap.size,0,none⟩=some (string q)/\x.cell? ⟨wr.heap.size,1,none⟩=some (int i64 r)/\x.cell? ⟨wr.heap.size,2,none⟩=some (int i64 (p+m))):=fun x h5 gr=>by
    have q1:x.heap[j]?=W.heap[j]?:=gr.XR.block j (Tw G N.size) (fun hq=>by have:=d.o.far _ (aQ hq);omega);have Q:x.heap[wr.heap.size]?=W.heap[wr.heap.size]?:=gr.XR.block _ (aj L) (fun hq=>by have:=d.o.X9.lt (aQ hq);omega);exact⟨by rw[TO q1];exact d0,by rw[TO Q];exact d1,by rw[TO Q];exact d2,by rw[TO Q];exact d3⟩
   have az:wr.heap.size<W.heap.size:=aj L;clear L N;(go_upto_region 10 with fail);rw[z.o];have s3:Xr (∀u∈([int u8 ((c[m]'a).toNat:Int),string q,int i64 r,int i64 (p+m)]:List Value),u.oneCell'=true):=by
    intro u hu;simp only[List.mem_cons,List.not_mem_nil,or_false]at hu;rcases hu with rfl | rfl | rfl | rfl <;> rfl
   have s4:Xr ((v8 P).n<=900000000):=(by show P.length<=_;omega);go_region_held3 (fun f=>f.cell? ⟨j,k*5,none⟩=some (string c)/\f.cell? ⟨wr.heap.size,0,none⟩=some (string q)/\f.cell? ⟨wr.heap.size,1,none⟩=some (int i64 r)/\f.cell? ⟨wr.heap.size,2,none⟩=some (int i64 (p+m))) (go_keep) ((refine bX W (by rfl) (.tmp 37) (.tmp 47) 267 (by rfl) iL (agg #[int u8 0,string ⟨#[]⟩,int i64 0,int i64 0]) 40 A (v8 P) [int u8 ((c[m]'a).toNat:Int),string q,int i64 r,int i64 (p+m)] underlying267 af H I J rfl (show 0<4 by omega) (by simp[Act.eval] <;> rfl) ac s4.o (by omega) (by simp[Act.eval]) rfl s3.o ?_;intro Z F x C B;obtain⟨q1,Q,q3,q4⟩:=HS.o x _ B));rw[<-U.o,v8,iA]at C;have V:Xr _:=E.o.XO B C;clear C B;go_wp2;go_roundg (c.size-(m+1))
   ·exact⟨m+1,⟨Z,F⟩,P++[J5 ⟨c,K,q,r,p⟩ m],by omega,rfl,by simp[v8,lG],by go_num,by simp;omega,S,V⟩
   omega
  ·have e:m=c.size:=(by omega);subst e;have M:Xr (P=eQ b v (k+1)):=by
    show _=_;rw[D.o,<-Y.o];congr 1;rw[Vf (by unfold tn;simp)]
   go_wp2;go_roundg (l-(k+1))
   ·exact⟨k+1,A,P,⟨by omega,by omega⟩,rfl,rfl,by go_num,by omega,M,d⟩
   omega
 ·have e:k=l:=by omega
  subst e;have M:Xr (eQ b v k=O):=HE.o.symm;go_wp2;go_ret;exact⟨w,by rw[M.o];rfl,by rw[M.o];exact HW.o⟩
structure dj where
  ref:Int
  back:Nat
  need:Nat
  XZ:Xs
  X0:Int
  X3:Int
def lI(s:dj):List Value:=[int i64 s.ref,int i64 s.back,int i64 s.need,string s.XZ,int i64 s.X0,int i64 s.X3]
theorem Oc(s:dj):(lI s).length=6:=rfl
def fz(L:List dj):eR:=lG 162 6 lI L
theorem nR(L:List dj)(x:dj):(⟨(fz L).e,(fz L).size,(fz L).n+1,(fz L).xs++lI x⟩:eR)=fz (L++[x]):=iA _ _ _ _ _
theorem uF(x:dj):∀u∈lI x,u.oneCell'=true:=by
  intro u a;simp only[lI,List.mem_cons,List.not_mem_nil,or_false]at a;rcases a with rfl | rfl | rfl | rfl | rfl | rfl <;> rfl
structure jP where
  st:List dj
  why:Int
  XZ:Xs
  X0:Int
  X3:Int
def Sh(p:jP)(h:Hd):Value:=agg #[slice h.ao p.st.length h.cap,int i64 p.why,string p.XZ,int i64 p.X0,int i64 p.X3]
theorem Nc:(prog.info? 162).map (fun i=>(i.zero,i.size,i.bytes))=some (some (agg #[int i64 0,int i64 0,int i64 0,string ⟨#[]⟩,int i64 0,int i64 0]),6,56):=by kernel_rfl
theorem fQ{l m o p q:Value}(h:n.heap[d]?=some (.cells #[l,m,o,p,q] 122))(a b c e f:Value) :
    (n.setCell ⟨d,0,none⟩ a).cell? ⟨d,0,none⟩=some a/\((n.setCell ⟨d,0,none⟩ a).setCell ⟨d,1,none⟩ b).cell? ⟨d,1,none⟩=some b/\(((n.setCell ⟨d,0,none⟩ a).setCell ⟨d,1,none⟩ b).setCell ⟨d,2,none⟩ c).cell? ⟨d,2,none⟩=some c/\((((n.setCell ⟨d,0,none⟩ a).setCell ⟨d,1,none⟩ b).setCell ⟨d,2,none⟩ c).setCell ⟨d,3,none⟩ e).cell? ⟨d,3,none⟩=some e/\(((((n.setCell ⟨d,0,none⟩ a).setCell ⟨d,1,none⟩ b).setCell ⟨d,2,none⟩ c).setCell ⟨d,3,none⟩ e).setCell ⟨d,4,none⟩ f).cell? ⟨d,4,none⟩=some f:=by
  have g:=ab h 0 a;have i:=ab g 1 b;have j:=ab i 2 c;have k:=ab j 3 e;have r:=ab k 4 f;exact⟨by rw[ah g];rfl,by rw[ah i];rfl,by rw[ah j];rfl,by rw[ah k];rfl,by rw[ah r];rfl⟩
def wH(c:Int):Xs:=⟨#[UInt8.ofNat c.toNat]⟩
theorem OZ(c:Int)(d:0<=c/\c<256)(a:World):(convert 312 9 (slice (some ⟨a.heap.size,0,none⟩) 1 1)).run prog (a.alloc (.cells #[int u8 c] 5))=.ok (string (wH c)) (a.alloc (.cells #[int u8 c] 5)):=by
  have e:c=((UInt8.ofNat c.toNat).toNat:Int):=by
    rw[UInt8.toNat_ofNat'];omega
  unfold wH;generalize UInt8.ofNat c.toNat=u at *;rw[e]
  exact Wv (a.alloc (.cells #[int u8 (u.toNat:Int)] 5)) 312 9 5 ⟨a.heap.size,0,none⟩ 1 [u] underlying312 underlying5 underlying9 (by
    intro j b
    match j,b with
    | 0,_=>simp[Addr.add])
def ox(why:Int)(l:Lt):jP:=⟨[],why,l.XZ,l.X0,l.X3⟩
def pQ(T:List Tk)(S:List Sm)(refs tags:Xv)(n:Nat)(l:Lt):dj :=
  if n<=refs.length then⟨(refs.getD (n-1) 0:Nat),0,gN T S (refs.getD (n-1) 0:Nat),l.XZ,l.X0,l.X3⟩ else⟨-2,tags.getD (n-refs.length-1) 0,0,l.XZ,l.X0,l.X3⟩
def mL(T:List Tk)(S:List Sm)(refs:Xv)(en:Lt):List Lt->List dj->Xv->Xs->Bool->jP
  | [],P,_,num,_=>if(num.toList == [])=false then ox 4 en else if P.length=0 then ox 1 en else⟨P,0,⟨#[]⟩,0,0⟩
  | l :: r,P,tags,num,fr =>
    if 85<=l.c/\l.c<=89 then mL T S refs en r P tags (num++wH l.c) false
    else if 65<=l.c/\l.c<=84 then
      (if gx (num++wH l.c) (refs.length+tags.length)=0 then ox 5 l
       else mL T S refs en r (P++[pQ T S refs tags (gx (num++wH l.c) (refs.length+tags.length)) l]) tags ⟨#[]⟩ true)
    else if l.c=90/\fr=true then mL T S refs en r P (tags++[P.length-1]) num false
    else if l.c=63/\(num.toList == [])=true then mL T S refs en r (P++[⟨-1,0,0,l.XZ,l.X0,l.X3⟩]) tags num false
    else ox 4 l
def j8(T:List Tk)(S:List Sm)(refs:Xv)(en:Lt)(L:List Lt):jP:=mL T S refs en L [] [] ⟨#[]⟩ false
theorem Ae:gx H l<=l:=by
  unfold gx;cases h:(List.range l).find? (xZ H) with
  | none=>exact Uc _
  | some i=>have:=TG.1 (Us h);show i+1<=l;omega
structure Ha(w wr:World)(en:Lt)(P:List dj)(h:Hd)(tags:Xv)(ht:Hd):Prop where
  e:wr.heap[w.heap.size]?=some (.cells #[string en.XZ,int i64 en.X0,int i64 en.X3] 36)
  r:wr.heap[w.heap.size+1]?=some (.cells #[slice none 0 0,int i64 0,string ⟨#[]⟩,int i64 0,int i64 0] 122)
  p:wr.heap[w.heap.size+2]?=some (.cells #[slice h.ao P.length h.cap,int i64 0,string ⟨#[]⟩,int i64 0,int i64 0] 122)
  op:aB wr h (fz P)
  ot:aB wr ht (bD tags)
  fp:∀k,h.XS=some k->w.heap.size+2<k
  ft:∀k,ht.XS=some k->w.heap.size+2<k
  ap:∀k,h.XS=some k->ht.XS≠some k
  XR:ae [] w wr
theorem Ha.XE{c:Lt}{P:List dj}(a:Ha n x c P k D I)(b:ae [] x o):Ha n o c P k D I :=
  ⟨b.get a.e (by simp),b.get a.r (by simp),b.get a.p (by simp),a.op.XE b,a.ot.XE b,a.fp,a.ft,a.ap,a.XR.trans b⟩
theorem qH(k:ae D x o)(c:∀q∈D,n.heap.size<=q)(a:ae [] n x):ae [] n o :=
  ⟨k.os.trans a.os,k.tape.trans a.tape,k.output.trans a.output,TF a.size k.size,fun q b _=>by
    rw[k.block q (Tw b a.size) (fun d=>by have:=c q d;omega),a.block q b (by simp)]⟩
theorem Ha.addT{l:Lt}{P:List dj}{b:Xv}(a:Ha n x l P k D I)(g:bq x o I N)(s:aB o N (bD b)):Ha n o l P k b N:=by
  have j:∀q,q<=n.heap.size+2->q∉I.XS.toList:=fun q i m=>by have:=a.ft q (aQ m);omega
  have t:=aj a.p;refine⟨g.XR.get a.e (j _ (by omega)),g.XR.get a.r (j _ (by omega)),g.XR.get a.p (j _ (by omega)),g.beside a.op (fun f c=>a.ap f c),s,a.fp,fun f c=>?_,fun f c d=>?_,qH g.XR (fun q i=>by have:=a.ft q (aQ i);omega) a.XR⟩
  · rcases g.XS with e | ⟨q,e,i⟩
    · exact a.ft f (by rw[<-e];exact c)
    · rw[e]at c;cases c;omega
  · rcases g.XS with e | ⟨q,e,i⟩
    · exact a.ap f c (by rw[<-e];exact d)
    · rw[e]at d;cases d
      have:=a.op.lt c;omega
theorem Ha.addP{v:Lt}{P l:List dj}(a:Ha n x v P k D I)(g:bq x o k N)(w:aB o N (fz l)){m:Nat}(t:m=l.length):Ha n (o.setCell ⟨n.heap.size+2,0,none⟩ (slice N.ao m N.cap)) v l N D I:=by
  subst t;have u:∀q,q<=n.heap.size+2->q∉k.XS.toList:=fun q b t=>by have:=a.fp q (aQ t);omega
  have C:=aj a.p;have y:=g.XR.get a.e (u _ (by omega));have B:=g.XR.get a.r (u _ (by omega));have A:=g.XR.get a.p (u _ (by omega));have i:∀f,N.XS=some f->n.heap.size+2<f:=fun f c=>by
    rcases g.XS with e | ⟨q,e,b⟩
    · exact a.fp f (by rw[<-e];exact c)
    · rw[e]at c;cases c;omega
  have j:aB o I (bD D):=g.beside a.ot (fun f c d=>a.ap f d c);have s:ae [n.heap.size+2] o (o.setCell ⟨n.heap.size+2,0,none⟩ (slice N.ao l.length N.cap)):=(ae.refl _ _).sl1 _;refine⟨s.get y (by simp),s.get B (by simp),by rw[ab A];rfl,w.XJ (fun q b=>s.block q (w.lt b) (by simp;have:=i q b;omega)),j.XJ (fun q b=>s.block q (j.lt b) (by simp;have:=a.ft q b;omega)),i,a.ft,fun f c d=>?_,?_⟩
  · rcases g.XS with e | ⟨q,e,b⟩
    · exact a.ap f (by rw[<-e];exact c) d
    · rw[e]at c;cases c
      have:=a.ot.lt d;omega
  · have z:ae [] n o:=qH g.XR (fun q b=>by have:=a.fp q (aQ b);omega) a.XR
    exact z.sr1 (by simp) _
theorem Ha.cells{b:Lt}{P:List dj}(a:Ha n x b P k D I) :
    (x.cell? ⟨n.heap.size,0,none⟩=some (string b.XZ)/\x.cell? ⟨n.heap.size,1,none⟩=some (int i64 b.X0)/\x.cell? ⟨n.heap.size,2,none⟩=some (int i64 b.X3)) /\
    (x.cell? ⟨n.heap.size+1,0,none⟩=some (slice none 0 0)/\x.cell? ⟨n.heap.size+1,1,none⟩=some (int i64 0)/\x.cell? ⟨n.heap.size+1,2,none⟩=some (string ⟨#[]⟩)/\x.cell? ⟨n.heap.size+1,3,none⟩=some (int i64 0)/\x.cell? ⟨n.heap.size+1,4,none⟩=some (int i64 0)) /\
    (x.cell? ⟨n.heap.size+2,0,none⟩=some (slice k.ao P.length k.cap)/\x.cell? ⟨n.heap.size+2,1,none⟩=some (int i64 0)/\x.cell? ⟨n.heap.size+2,2,none⟩=some (string ⟨#[]⟩)/\x.cell? ⟨n.heap.size+2,3,none⟩=some (int i64 0)/\x.cell? ⟨n.heap.size+2,4,none⟩=some (int i64 0)) /\
    (x.frozen? ⟨n.heap.size+1,0,none⟩=false/\x.frozen? ⟨n.heap.size+1,1,none⟩=false/\x.frozen? ⟨n.heap.size+1,2,none⟩=false/\x.frozen? ⟨n.heap.size+1,3,none⟩=false/\x.frozen? ⟨n.heap.size+1,4,none⟩=false)/\x.frozen? ⟨n.heap.size+2,0,none⟩=false/\n.heap.size+2<x.heap.size:=by
  refine⟨⟨?_,?_,?_⟩,⟨?_,?_,?_,?_,?_⟩,⟨?_,?_,?_,?_,?_⟩,⟨am a.r 0,am a.r 1,am a.r 2,am a.r 3,am a.r 4⟩,am a.p 0,aj a.p⟩
  all_goals first | (rw[ah a.e];rfl) | (rw[ah a.r];rfl) | (rw[ah a.p];rfl)
end Go.Proofs.YtnbhnocdhbcbcaaGreat
