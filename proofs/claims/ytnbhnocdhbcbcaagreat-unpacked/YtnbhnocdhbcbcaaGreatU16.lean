import Derived.Deep.RegionHeld3
import Derived.Laws.OwnMore
import Derived.BigQuiet
import Derived.Laws.IdiomStrings
import Derived.Deep.RegionLaw
import Derived.Test.YtnbhnocdhbcbcaaGreatU15
namespace Go.Proofs.YtnbhnocdhbcbcaaGreat
open Go.RowKit Tryz
open Value IntKind Ending
set_option maxHeartbeats 0
variable{d c:Nat}{M:Xs}{n x o:World}{k I N:Hd}{z1:ew}{z2:Xt}{z0:Xu}{D:Xv}(L y:Nat)(i:Xs)(S:Nat)(b:List Tk)(s:Xu)(t:Nat)(w:List Sm)(z3:Xu)(v:Nat)(H:Xs)(l:Nat)(T:World)
set_option maxRecDepth 100000
theorem sV(D:H.size<=1073741824) :
  Calls prog 53 #[string H] T fun e z=>e=returned (bool (g7 H))/\z=T:=by
 by_cases t:H.size=0
 ·have l:Xr (g7 H=false):=nu H (Us (by omega));have n:((H.size:Int)==0)=true:=by simpa using t
  go_enter func53,ntmps53;go_wp2;go_ret;exact⟨aE l.o.symm,rfl⟩
 ·have n:((H.size:Int)==0)=false:=by simpa using t
  by_cases A:8<H.size
  ·have l:Xr (g7 H=false):=nu H (Uo (by omega));have p:(8:Int)<(H.size:Int):=(by omega);go_enter func53,ntmps53;go_wp2;go_ret;exact⟨aE l.o.symm,rfl⟩
  ·have p:¬(8:Int)<(H.size:Int):=(by omega);have s:Xr (g7 H=(List.range H.size).all (fun i=>lA (aH H i))):=by
    show _=_;unfold g7;rw[show decide (1<=H.size)=true by simp;omega,show decide (H.size<=8)=true by simp;omega];rfl
   go_enter func53,ntmps53;go_wp2
   go_loopg [3] H.size (fun g i wr=>∃k:Nat,k<=H.size/\g=H.size-k/\i=int i64 k/\Xr (∀i,i<k->lA (aH H i)=true)/\wr=T)
   ·exact⟨0,by omega,by omega,rfl,fun i h=>by omega,rfl⟩
   obtain⟨k,C,B,rfl,b,rfl⟩:=hrel;by_cases d:k<H.size
   ·have c:Xr (lA (H[k].toNat:Int)=(fX (H[k].toNat:Int) && !((H[k].toNat:Int)==36))):=rfl;have j:Xr (lA (H[k].toNat:Int)=false->g7 H=false):=fun q=>by rw[s.o];exact Fp k d (by rw[bZ H k d];exact q)
    have m:Xr (lA (H[k].toNat:Int)=true->∀i,i<k+1->lA (aH H i)=true):=fun q i x=>by
     by_cases e:i=k
     ·subst e;rw[bZ H i d];exact q
     ·exact b.o i (by omega)
    have y:(k:Int)<(H.size:Int):=(by omega);cases r:fX (H[k].toNat:Int)
    ·have f:Xr _:=j.o (by rw[c.o,r];rfl);go_wp2_with (go_at_call 79;refine(md _ _).mono ?_;rintro e v ⟨rfl,a⟩;rw[a];clear a);go_ret;exact⟨aE f.o.symm,rfl⟩
    ·cases u:((H[k].toNat:Int)==36)
     ·have f:Xr _:=m.o (by rw[c.o,r,u];rfl);go_wp2_with (go_at_call 79;refine(md _ _).mono ?_;rintro e v ⟨rfl,a⟩;rw[a];clear a);go_roundg (H.size-(k+1))
      ·exact⟨k+1,by omega,rfl,by go_num,f,rfl⟩
      omega
     ·have f:Xr _:=j.o (by rw[c.o,r,u];rfl);go_wp2_with (go_at_call 79;refine(md _ _).mono ?_;rintro e v ⟨rfl,a⟩;rw[a];clear a);go_ret;exact⟨aE f.o.symm,rfl⟩
   ·have w:Xr (g7 H=true):=(by show _=_;rw[s.o];exact Bj (fun i x=>b.o i (by omega)));go_wp2;go_ret;exact⟨aE w.o.symm,rfl⟩
set_option maxRecDepth 512
theorem Dv(f:i.size<=1073741824)(l:H.size<=4294967296) :
  Calls prog 35 #[string i,string H] T fun e k=>e=returned (int i64 (du i H))/\k=T:=by
 cases c:g7 i
 ·have b:Xr (du i H=2):=by show _=_;unfold du;rw[Uf c]
  go_enter func35,ntmps35;go_wp2_with (go_at_call 53;refine(sV i _ f).mono ?_;rintro e j ⟨rfl,a⟩;rw[a];clear a);go_ret;exact⟨T0 b.o.symm,rfl⟩
 ·by_cases g:1024<H.size
  ·have b:Xr (du i H=3):=(by show _=_;unfold du;rw[Ud (by rw[c];simp),Uf g]);have d:(1024:Int)<(H.size:Int):=(by omega);go_enter func35,ntmps35;go_wp2_with (go_at_call 53;refine(sV i _ f).mono ?_;rintro e j ⟨rfl,a⟩;rw[a];clear a);go_ret;exact⟨T0 b.o.symm,rfl⟩
  ·have b:Xr (du i H=0):=(by show _=_;unfold du;rw[Ud (by rw[c];simp),Ud g]);have d:¬(1024:Int)<(H.size:Int):=(by omega);go_enter func35,ntmps35;go_wp2_with (go_at_call 53;refine(sV i _ f).mono ?_;rintro e j ⟨rfl,a⟩;rw[a];clear a);go_ret;exact⟨T0 b.o.symm,rfl⟩
structure pM(T:List Tk)(S:List Sm)(n:Nat):Prop where
 ok:i8 T S n
 sm:S.length<=10000
 tm:T.length<=10000
 e:∀j,j<n->cd (aq S j).k=false->dS T (aq S j).h
 f:m8 T S n
theorem pM.mono{T:List Tk}{S:List Sm}(h:pM T S d)(g:c<=d):pM T S c :=
 ⟨⟨Un g h.ok.m,h.ok.s,h.ok.t,fun j b=>h.ok.c j (by omega),fun j b=>h.ok.v j (by omega),fun j b=>h.ok.a j (by omega)⟩,h.sm,h.tm,fun j b=>h.e j (by omega),fun j b=>h.f j (by omega)⟩
def Q8(T:List Tk)(S:List Sm)(x y:Xs)(a j:Nat):Bool:=((aq S j).k.toList == [36,100])&&(!(x.toList==y.toList)&&(aJ (bA T (aq S j).h) x&&(aJ (bA T (aq S j).h) y&&aO S j a)))
def eB(T:List Tk)(S:List Sm)(x y:Xs)(a:Nat):Bool:=(List.range a).any (Q8 T S x y a)
theorem fO{l:List UInt8}(h:(M.toList==l)=true)(a:(l == [36,46])=false/\(l == [36,123])=false/\(l == [36,125])=false):cd M=false:=by
 have:M.toList=l:=by simpa using h
 unfold cd;rw[this,a.1,a.2.1,a.2.2];rfl
set_option maxRecDepth 100000
theorem xo(T:List Tk)(n:Xu)(V:Nat)(S:List Sm)(R:Xu)(U:Nat)(w:World)(hD:ge w L T n V S R U)(E:pM T S y) :
  Calls prog 95 #[pointer (some ⟨L,0,none⟩),string i,string H,int i64 y] w fun e F=>e=returned (bool (eB T S i H y))/\ae [] w F:=by
 have O:Xr _:=hD;have hn:=E.ok.m;have hS:=E.ok.s;have hT:=E.ok.t;have P:Xr _:=E;clear hD E;go_enter func95,ntmps95;go_wp2
 go_loopg [9] y (fun g al wr=>∃k:Nat,k<=y/\g=y-k/\al=int i64 k/\Xr (∀j,j<k->Q8 T S i H y j=false)/\Xr (ae [] w wr))
 ·exact⟨0,by omega,rfl,rfl,(fun j hj=>by omega),ae.refl _ _⟩
 obtain⟨k,hk,hg,rfl,G,r⟩:=hrel;by_cases C:k<y
 ·have d:k<S.length:=by omega
  have z:Xr _:=ge.Yh O.o r.o;obtain⟨-,c1,hb⟩:=z.o.cells;obtain⟨gs,rfl,ag,-,-,-,q3⟩:=z.o.s.2 k S[k] (Ub d);have ai:(k:Int)<(y:Int):=by omega
  have ad:(k:Int)<S.length:=by omega
  have l:Xr (Q8 T S i H y k=((S[k].k.toList == [36,100])&&(!(i.toList==H.toList)&&(aJ (bA T S[k].h) i&&(aJ (bA T S[k].h) H&&aO S k y))))):=cM (by unfold Q8;rw[bX S k d]);have A:Xr ((S[k].k.toList == [36,100])=true->dS T S[k].h):=fun h=>by have:=P.o.e k C;rw[<-bX S k d]at this;exact this (fO h (by decide))
  have N:Xr ((S[k].k.toList == [36,100])=true->∀b,ae [] w b->Calls prog 73 #[pointer (some ⟨L,0,none⟩),int i64 k] b fun e F=>∃W,e=returned (slice W.ao (bA T S[k].h).length W.cap)/\zX b F W (bA T S[k].h)):=fun h b Y=>mA L k T n V S _ U b (ge.Yh O.o Y) d hT (A.o h);have af:=l5 T S[k].h;have u:Xr (∀b,ae [] w b->Calls prog 93 #[pointer (some ⟨L,0,none⟩),int i64 k,int i64 y] b fun e F=>e=returned (bool (aO S k y))/\F=b):=fun b Y=>lZ L k y T n V S _ U b (ge.Yh O.o Y) (by omega) hn hS;clear A;generalize bA T S[k].h=B at *;generalize S[k].k=sk at *;obtain⟨ac,Q⟩:=bm (aO S k y);rw[Q.o]at l u;cases X:(sk.toList == [36,100])
  ·have c:Xr _:=fc G.o (by rw[l.o,X];rfl);go_wp2;go_roundg (y-(k+1))
   ·exact⟨k+1,by omega,rfl,by go_num,c,r⟩
   omega
  ·cases h2:(i.toList==H.toList)
   ·have M:Xr _:=N.o X;(go_upto_region 6 with (go_at_call 73;refine(M.o _ (by exact r.o)).mono ?_;rintro e Z ⟨I,rfl,J⟩));have f:Xr _:=r.o.trans J.Yu;have v:Xr _:=(kU B I.ao I.cap i Z J.YF.srcX (by omega));have x:Xr _:=(kU B I.ao I.cap H Z J.YF.srcX (by omega));have K:Xr _:=u.o Z f.o;clear J c1 q3;obtain⟨p,Hp⟩:=bm (aJ B i);rw[Hp.o]at v l;obtain⟨q,Hq⟩:=bm (aJ B H);rw[Hq.o]at x l;(go_upto_region 7 with (go_at_call 94;refine Ug v.o ?_;rintro e w9 ⟨rfl,a⟩;rw[a];clear a));(go_upto_region 8 with (go_at_call 94;refine Ug x.o ?_;rintro e w9 ⟨rfl,a⟩;rw[a];clear a));(go_upto_region 9 with (go_at_call 93;refine Ug K.o ?_;rintro e w9 ⟨rfl,a⟩;rw[a];clear a));cases D:(p&&(q&&ac))
    ·have c:Xr _:=fc G.o (by rw[l.o,D];simp);cases p <;> cases q <;> cases ac <;> first | (exact absurd D (by decide)) | skip
     all_goals
      go_wp2;go_roundg (y-(k+1))
      ·exact⟨k+1,by omega,rfl,by go_num,c,f⟩
      omega
    ·have c:Xr (eB T S i H y=true):=nh k C (by rw[l.o,X,h2,D];rfl);simp only[Bool.and_eq_true]at D;obtain⟨rfl,rfl,rfl⟩:=D;go_wp2;go_ret;exact⟨aE c.o.symm,f.o⟩
   ·have c:Xr _:=fc G.o (by rw[l.o,h2];simp);go_wp2;go_roundg (y-(k+1))
    ·exact⟨k+1,by omega,rfl,by go_num,c,r⟩
    omega
 ·have c:Xr (eB T S i H y=false):=uT (fun j hj=>G.o j (by omega));go_wp2;go_ret;exact⟨aE c.o.symm,r.o⟩
structure ip(w wr:World)(h:Hd)(r:ew):Prop where
 YF:aB wr h r
 far:∀k,h.Yv=some k->w.heap.size<=k
 Yu:ae [] w wr
theorem ip.Yh(a:ip n x k z1)(b:ae [] x o):ip n o k z1:=⟨a.YF.Yh b,a.far,a.Yu.trans b⟩
theorem ip.Yr{f:ew}(a:ip n x k z1)(g:bJ x o k I)(i:aB o I f):ip n o I f:=by
 refine⟨i,fun c b=>?_,⟨g.Yu.os.trans a.Yu.os,g.Yu.tape.trans a.Yu.tape,g.Yu.output.trans a.Yu.output,Un a.Yu.size g.Yu.size,fun c b _=>?_⟩⟩
 ·rcases g.Yv with e | ⟨q,e,d⟩
  ·exact a.far c (by rw[<-e];exact b)
  ·rw[e]at b;cases b;exact Un a.Yu.size d
 ·rw[g.Yu.block c (Ul b a.Yu.size) (fun d=>by have:=a.far _ (aR d);omega),a.Yu.block c b (by simp)]
theorem zX.toL(a:zX n x k z2):ip n x k (aD z2):=⟨a.YF,a.far,a.Yu⟩
theorem ip.base(a:ip x o k z1)(b:ae [] n x):ip n o k z1:=⟨a.YF,fun q c=>Un b.size (a.far q c),b.trans a.Yu⟩
theorem bJ.beside(g:bJ n x k I)(b:aB n N z1)(a:∀d,N.Yv=some d->k.Yv≠some d):aB x N z1 :=
 b.Ym (fun q c=>g.Yu.block q (b.lt c) (fun e=>a q c (aR e)))
theorem pG{P:Program}{l:Array Oper}{d:List Oper}{o:Oper}{a:Act}{Q:Exit->Act->World->Prop}(L:o.guard=none)(s x:Operand)(t:TypeId)(v:o.op=Op.call { callee:=Callee.builtin Builtin.append,args:=#[s,x],argTypes:=#[t,t] })(i:TypeInfo)(z:Value)(c:Nat)(h:Hd)(r:ew)(b:List Value)(C:P.underlying t=some (.slice r.e))(D:P.info? r.e=some i)(E:i.zero=some z)(F:i.size=r.size)(G:i.bytes=c)(H:z.cells.size=r.size)(I:0<r.size)(O:a.eval s=slice h.ao r.n h.cap)(k:aB T h r)(U:r.n<=1000000)(K:c<=1000)(R:a.eval x=slice (some ⟨T.heap.size,0,none⟩) 1 1)(V:b.length=r.size)(p:∀u∈b,u.oneCell'=true)(J:∀m y,aB y m ⟨r.e,r.size,r.n+1,r.xs++b⟩->bJ T y h m->wpList P l Q d (a.put o.dst (slice m.ao (r.n+1) m.cap)) y) :
  wpList P l Q (o :: d) a (T.alloc (.cells b.toArray r.e)):=by
 have A:ae [] T (T.alloc (.cells b.toArray r.e)):=bM.alloc _;have N:(T.alloc (.cells b.toArray r.e)).heap[T.heap.size]?=some (.cells b.toArray r.e):=Ui _ _;refine aN _ L s x t v i z c h r C D E F G H I O (k.Yh A) ⟨T.heap.size,0,none⟩ 1 1 b R (by omega) ?_ p UA (by unfold maxLen;omega) (Un (Wj (show r.n+1<=1000001 by omega) K) (by omega)) ?_
 ·intro j u M;rw[bS,ah N];simpa using M
 ·intro B f S w g q;exact J ⟨some ⟨B,0,none⟩,f⟩ S w ((bJ.Yh A).trans (bJ.made g q))
def qA(w:World)(ao:Xu)(L:Xv):Prop:=∀(k n:Nat),L[k]?=some n->∃g,ao=some ⟨g,0,none⟩/\g<w.heap.size/\w.cell? ⟨g,k,none⟩=some (int i64 n)
theorem qA.Yh(h:qA n z0 D)(k:ae [] n x):qA x z0 D:=by
 intro j d c;obtain⟨g,e,a,b⟩:=h j d c;exact⟨g,e,Ul a k.size,by rw[Uw (k.block g a (by simp))];exact b⟩
theorem ig.Yh(h:ig n z0 z2)(k:ae [] n x):ig x z0 z2:=by
 intro j d c;obtain⟨g,e,a,b⟩:=h j d c;exact⟨g,e,Ul a k.size,by rw[Uw (k.block g a (by simp))];exact b⟩
theorem aB.srcN(o:aB n k (bu D)):qA n k.ao D:=by
 intro f x c;rcases o.Ys with ⟨_,b,_⟩ | ⟨g,d,a,e,i,-⟩
 ·have b:D.length=0:=b;have:=(Uk.1 c).1;omega
 ·exact⟨g,a,aj e,o.cell a f (int i64 x) (by simp[bu,jF,c])⟩
theorem uy(L:Xv)(n:Nat):(⟨(bu L).e,(bu L).size,(bu L).n+1,(bu L).xs++[int i64 n]⟩:ew)=bu (L++[n]):=by
 simp[bu,jF]
theorem Ev(L M:Xt):(⟨(aD L).e,(aD L).size,(aD L).n+M.length,(aD L).xs++dm M⟩:ew)=aD (L++M):=by
 simp[aD,dm]
theorem BJ:(prog.info? 3).map (fun i=>(i.zero,i.size,i.bytes))=some (some (int i64 0),1,8):=by kernel_rfl
theorem ig.cells(h:ig n z0 z2):∀b,z0=some b->∀j u,(dm z2)[j]?=some u->n.cell? (b.add j)=some u:=by
 intro b e j u a;rw[dm,UL]at a;cases d:z2[j]? with
 | none=>rw[d]at a;cases a
 | some x =>
  rw[d]at a;cases a
  obtain⟨g,f,-,c⟩:=h j x d;rw[e]at f;cases f
  rw[bS];simpa using c
def zn(S:List Sm)(a j:Nat):Bool:=((aq S j).k.toList == [36,101])&&aO S j a
def kQ(T:List Tk)(S:List Sm)(a k:Nat):Xt:=bA T (aq S a).h++((List.range k).filter (zn S a)).flatMap (fun j=>bA T (aq S j).h)
def uK(T:List Tk)(S:List Sm)(a:Nat):Xt:=kQ T S a a
def ub(T:List Tk)(S:List Sm)(a:Nat)(U:Xt)(j:Nat):Bool:=aO S j a&&(((aq S j).k.toList == [36,101])||(((aq S j).k.toList == [36,102])&&aJ U (tS T ((aq S j).h+1))))
def a9(T:List Tk)(S:List Sm)(a:Nat):Xv:=(List.range a).filter (ub T S a (uK T S a))
theorem iK(p:Nat->Bool)(k:Nat):(List.range (k+1)).filter p=(List.range k).filter p++(if p k=true then [k] else []):=by
 rw[Vr,Vi];congr 1;cases h:p k
 ·rw[VJ (by rw[h];simp)];rfl
 ·rw[VU h];rfl
theorem OR(h:zn w v l=true):kQ b w v (l+1)=kQ b w v l++bA b (aq w l).h:=by
 unfold kQ;rw[iK,Uf h,Vz,Vs];simp
theorem QU(h:zn w v l=false):kQ b w v (l+1)=kQ b w v l:=by
 unfold kQ;rw[iK,Ud (by rw[h];simp),UE]
theorem Px(c:(M.toList == [36,101])=true)(a:(M.toList == [36,102])=true):False:=by
 have b:M.toList=[36,101]:=by simpa using c
 rw[b]at a;exact absurd a (by decide)
theorem rG(hD:ge T y b s t w z3 l)(V:pM b w S)(hn:S<w.length)(hE:dS b (aq w S).h) :
  Calls prog 63 #[pointer (some ⟨y,0,none⟩),int i64 S] T fun e P=>∃c,e=returned (slice c.ao (a9 b w S).length c.cap)/\ip T P c (bu (a9 b w S)):=by
 have HD:Xr _:=hD;have hS:=V.ok.s;have hT:=V.ok.t;have bl:=V.sm;have bo:=V.tm;have ai:Xr _:=V;have Y:Xr (∀E,ae [] T E->Calls prog 73 #[pointer (some ⟨y,0,none⟩),int i64 S] E fun e P=>∃c,e=returned (slice c.ao (bA b w[S].h).length c.cap)/\zX E P c (bA b w[S].h)):=fun E kx=>mA y S b s t w _ l E (hD.Yh kx) hn hT (by rw[bX w S hn];exact hE);have K:Xr _:=Y.o T (ae.refl _ _);rw[bX w S hn]at K;have a3:Xr (kQ b w S 0=bA b (aq w S).h):=cM (by unfold kQ;simp);have bv:=l5 b (aq w S).h;obtain⟨iS,bd,ax,az,aS⟩:=UC jN;obtain⟨iN,an,H,I,J⟩:=UC BJ;clear hD V Y;generalize bA b (aq w S).h=B0 at *;go_enter func63,ntmps63;go_upto_region 2 with (go_at_call 73;refine Ug K.o ?_;rintro e w0 ⟨h0,rfl,x0⟩)
 have a4:Xr _:=x0.toL;clear x0 K;go_wp2
 go_loopg [5,6] S (fun g u i wr=>∃(k:Nat) (c:Hd) (O:Xt),k<=S/\g=S-k/\u=slice c.ao O.length c.cap/\i=int i64 k/\O.length<=10000*(k+1)/\Xr (O=kQ b w S k)/\Xr (ip T wr c (aD O)))
 ·exact⟨0,h0,B0,by omega,rfl,rfl,rfl,by omega,a3.o.symm,a4⟩
 obtain⟨k,c,O,hk,hg,rfl,rfl,hO,G,r⟩:=hrel;by_cases bf:k<S
 ·have p:k<w.length:=by omega
  have n:Xr _:=ge.Yh HD.o r.o.Yu;obtain⟨-,c1,hb⟩:=n.o.cells;obtain⟨gs,rfl,bc,-,-,-,q3⟩:=n.o.s.2 k w[k] (Ub p);have be:(k:Int)<(S:Int):=by omega
  have ap:(k:Int)<w.length:=by omega
  have A:Xr (zn w S k=((w[k].k.toList == [36,101])&&aO w k S)):=cM (by unfold zn;rw[bX w k p]);have a0:Xr ((w[k].k.toList == [36,101])=true->Calls prog 73 #[pointer (some ⟨y,0,none⟩),int i64 k] wr fun e P=>∃c,e=returned (slice c.ao (bA b w[k].h).length c.cap)/\zX wr P c (bA b w[k].h)):=fun h=>mA y k b s t w _ l wr n.o p hT (by have:=ai.o.e k bf;rw[<-bX w k p]at this;exact this (fO h (by decide)));have HY:Xr (zn w S k=true->O++bA b w[k].h=kQ b w S (k+1)):=fun h=>by rw[OR b w S k h,<-G.o,bX w k p]
  have R:Xr (zn w S k=false->O=kQ b w S (k+1)):=fun h=>by rw[QU b w S k h,<-G.o]
  have bj:=l5 b w[k].h;have j:Xr _:=(lZ y k S b s t w _ l wr n.o (by omega) (by omega) hS);generalize bA b w[k].h=B at *;generalize w[k].k=W at *;obtain⟨ac,N⟩:=bm (aO w k S);rw[N.o]at A j;cases F:(W.toList == [36,101])
  ·have x:Xr _:=R.o (by rw[A.o,F];rfl);go_wp2_with (go_at_call 93;refine Ug j.o ?_;rintro e Q ⟨rfl,a⟩;rw[a];clear a);go_roundg (S-(k+1))
   ·exact⟨k+1,c,O,by omega,rfl,rfl,by go_num,by omega,x,r⟩
   omega
  ·cases ac
   ·have x:Xr _:=R.o (by rw[A.o,F];rfl);go_wp2_with (go_at_call 93;refine Ug j.o ?_;rintro e Q ⟨rfl,a⟩;rw[a];clear a);go_roundg (S-(k+1))
    ·exact⟨k+1,c,O,by omega,rfl,rfl,by go_num,by omega,x,r⟩
    omega
   ·have x:Xr _:=HY.o (by rw[A.o,F];rfl);have aT:Xr _:=a0.o F;(go_upto_region 8 with (first | (go_at_call 93;refine Ug j.o ?_;rintro e Q ⟨rfl,a⟩;rw[a];clear a) | (go_at_call 73;refine Ug aT.o ?_;rintro e w2 ⟨z,rfl,x2⟩)));have ag:Xr _:=r.o.Yh x2.Yu;have a7:Xr _:=x2.YF.srcX.cells;have ad:Xr _:=x2.Yu;have bg:z.ao=none->B.length=0/\z.cap=0:=fun e=>by
     rcases x2.YF.Ys with ⟨q1,q2,q3⟩ | ⟨g,bk,q1,-⟩
     ·exact⟨q2,by rw[q1]⟩
     ·rw[e]at q1;cases q1
    clear x2 c1 q3;go_wp2_with (at_builtin;refine dW _ rfl (.tmp 40) (.tmp 41) 61 rfl iS (string ⟨#[]⟩) 16 c (aD O) underlying61 bd ax az aS rfl UA rfl ag.o.YF z.ao B.length z.cap (dm B) rfl (by simp[aD,dm]) bg a7.o (mQ B) (by simp only[aD];omega) (by omega) ?_;intro h5 w5 d q;rw[Ev]at d;have C:Xr _:=ag.o.Yr q d;clear d q);go_roundg (S-(k+1))
    ·exact⟨k+1,h5,O++B,by omega,rfl,by simp[aD],by go_num,by simp;omega,x,C⟩
    omega
 ·have e:k=S:=by omega
  subst e;obtain⟨U,HU⟩:=bm (uK b w k);have e2:O=U:=by rw[<-HU.o,G.o];rfl
  subst e2;have HX:Xr _:=r.o.YF.srcX;have af:Xr _:=r.o.Yu;have HR:Xr (a9 b w k=(List.range k).filter (ub b w k O)):=cM (by unfold a9;rw[HU.o]);have a2:Xr (ip wr wr ⟨none,0⟩ (bu [])):=⟨Uj _ _ _ _,(by intro k hk;cases hk),ae.refl _ _⟩;clear r G;go_wp2
  go_loopg [9,10] k (fun g o i w2=>∃(m:Nat) (z:Hd) (L:Xv),m<=k/\g=k-m/\o=slice z.ao L.length z.cap/\i=int i64 m/\L.length<=m/\Xr (L=(List.range m).filter (ub b w k O))/\Xr (ip wr w2 z (bu L)))
  ·exact⟨0,⟨none,0⟩,[],by omega,rfl,rfl,rfl,by simp,rfl,a2⟩
  obtain⟨m,z,L,hm,br,rfl,rfl,hL,G,r⟩:=hrel;by_cases ar:m<k
  ·have p:m<w.length:=(by omega);have ad:Xr _:=af.o.trans r.o.Yu;have n:Xr _:=ge.Yh HD.o ad.o;obtain⟨c0,c1,hb⟩:=n.o.cells;obtain⟨gs,rfl,bc,-,-,q2,q3⟩:=n.o.s.2 m w[m] (Ub p);have be:(m:Int)<(k:Int):=(by omega);have ap:(m:Int)<w.length:=(by omega);have A:Xr (ub b w k O m=(aO w m k&&((w[m].k.toList == [36,101])||((w[m].k.toList == [36,102])&&aJ O (tS b (w[m].h+1)))))):=cM (by unfold ub;rw[bX w m p]);have a1:Xr ((w[m].k.toList == [36,102])=true->w[m].h+1<b.length):=fun h=>by have:=ai.o.f m ar;rw[<-bX w m p]at this;exact this h
   have HY:Xr (ub b w k O m=true->L++[m]=(List.range (m+1)).filter (ub b w k O)):=fun h=>by rw[iK,Uf h,<-G.o]
   have R:Xr (ub b w k O m=false->L=(List.range (m+1)).filter (ub b w k O)):=fun h=>by rw[iK,Ud (by rw[h];simp),UE,<-G.o]
   have j:Xr _:=(lZ y m k b s t w _ l wr n.o (by omega) (by omega) hS);obtain⟨ac,N⟩:=bm (aO w m k);rw[N.o]at A j;generalize w[m].k=W at *;generalize w[m].h=D at *;obtain⟨v,Hv⟩:=bm (tS b (D+1));rw[Hv.o]at A;have X:Xr (∀E,ae [] wr E->Calls prog 94 #[slice c.ao O.length c.cap,string v] E fun e P=>e=returned (bool (aJ O v))/\P=E):=fun E kx=>kU O c.ao c.cap v E (ig.Yh HX.o (r.o.Yu.trans kx)) (by omega);obtain⟨hs,a5⟩:=bm (aJ O v);rw[a5.o]at X A;have a6:=r.o.YF;cases ac
   ·have x:Xr _:=R.o (by rw[A.o];rfl);go_wp2_with (go_at_call 93;refine Ug j.o ?_;rintro e Q ⟨rfl,a⟩;rw[a];clear a);go_roundg (k-(m+1))
    ·exact⟨m+1,z,L,by omega,rfl,rfl,by go_num,by omega,x,r⟩
    omega
   ·cases F:(W.toList == [36,101])
    ·cases h3:(W.toList == [36,102])
     ·have x:Xr _:=R.o (by rw[A.o,F,h3];rfl);go_wp2_with (go_at_call 93;refine Ug j.o ?_;rintro e Q ⟨rfl,a⟩;rw[a];clear a);go_roundg (k-(m+1))
      ·exact⟨m+1,z,L,by omega,rfl,rfl,by go_num,by omega,x,r⟩
      omega
     ·have ba:=a1.o h3;obtain⟨gT,rfl,bs,t0,-⟩:=n.o.t.2 (D+1) _ (jf b (D+1) ba);replace t0:wr.cell? ⟨gT,(D+1)*5,none⟩=some (string (tS b (D+1))):=t0;rw[Hv.o]at t0;have bp:(D:Int)+1<b.length:=(by omega);have bz:IntKind.i64.wrap ((D:Int)+1)=(D:Int)+1:=(by rw[Vv];omega);have bx:((D:Int)+1).toNat=D+1:=(by omega);have bw:(0:Int)<=(D:Int)+1:=(by omega);(go_upto_region 17 with (go_at_call 93;refine Ug j.o ?_;rintro e Q ⟨rfl,a⟩;rw[a];clear a));have M:Xr _:=r.o.Yh (ae.refl [] wr).drew;have al:=M.o.YF;go_region_with (go_at_call 94;refine(X.o _ (by exact(ae.refl [] wr).drew)).mono ?_;rintro e Q ⟨rfl,a⟩;rw[a];clear a)
      all_goals
       clear c0 q2 t0;cases hs
       ·have x:Xr _:=R.o (by rw[A.o,F,h3];rfl);go_wp2;go_roundg (k-(m+1))
        ·exact⟨m+1,z,L,by omega,rfl,rfl,by go_num,by omega,x,M⟩
        omega
       ·have x:Xr _:=HY.o (by rw[A.o,F,h3];rfl);go_wp2_with (at_builtin;refine pG _ rfl (.tmp 93) (.tmp 95) 24 rfl iN (int i64 0) 8 z (bu L) [int i64 m] underlying24 an H I J rfl UA rfl al (by simp only[bu];omega) (by omega) rfl rfl (by simp[Value.oneCell']) ?_;intro h5 w5 d q;rw[uy]at d;have C:Xr _:=M.o.Yr q d;clear d q);go_roundg (k-(m+1))
        ·exact⟨m+1,h5,L++[m],by omega,rfl,by simp[bu],by go_num,by simp;omega,x,C⟩
        omega
    ·have x:Xr _:=HY.o (by rw[A.o,F];rfl);have h3:(W.toList == [36,102])=false:=by
      cases h:(W.toList == [36,102])
      ·rfl
      ·exact(Px F h).elim
     go_wp2_with (first | (go_at_call 93;refine Ug j.o ?_;rintro e Q ⟨rfl,a⟩;rw[a];clear a) | (at_builtin;refine pG _ rfl (.tmp 93) (.tmp 95) 24 rfl iN (int i64 0) 8 z (bu L) [int i64 m] underlying24 an H I J rfl UA rfl a6 (by simp only[bu];omega) (by omega) rfl rfl (by simp[Value.oneCell']) ?_;intro h5 w5 d q;rw[uy]at d;have C:Xr _:=r.o.Yr q d;clear d q));go_roundg (k-(m+1))
     ·exact⟨m+1,h5,L++[m],by omega,rfl,by simp[bu],by go_num,by simp;omega,x,C⟩
     omega
  ·have e:m=k:=(by omega);subst e;rw[<-HR.o]at G;have Z:Xr (a9 b w m=L):=G.o.symm;go_wp2;go_ret;exact⟨z,by rw[Z.o];rfl,by rw[Z.o];exact r.o.base af.o⟩
def dY(T:List Tk)(S:List Sm)(a:Nat)(x:Xs):Int :=
 if bB T S x a<0 then -1 else if(aA (aq S (bB T S x a).toNat).k||aO S (bB T S x a).toNat a)=true then bB T S x a else -1
theorem su:bB b w H l=-1∨∃k,k<l/\bB b w H l=(k:Int):=by
 unfold bB;cases h:(List.range l).find? (mU b w H) with
 | none=>exact Us rfl
 | some j=>exact Uo ⟨j,Up.1 (UV h),rfl⟩
theorem rt:dY b w v H=-1∨∃k,k<v/\dY b w v H=(k:Int):=by
 unfold dY;split
 ·exact Us rfl
 ·next h =>
  split
  ·rcases su b w H v with e | ⟨k,a,e⟩
   ·omega
   ·exact Uo ⟨k,a,e⟩
  ·exact Us rfl
theorem zm(G:ge T L b s t w z3 l)(C:pM b w y) :
  Calls prog 129 #[pointer (some ⟨L,0,none⟩),int i64 y,string i] T fun e g=>e=returned (int i64 (dY b w y i))/\ae [] T g:=by
 have n:Xr _:=pR L y i b s t w z3 l T G C.ok.m C.ok.s C.ok.a;have d:Xr (dY b w y i=if bB b w i y<0 then -1 else if(aA (aq w (bB b w i y).toNat).k||aO w (bB b w i y).toNat y)=true then bB b w i y else -1):=rfl;generalize dY b w y i=R at *;have X:=C.ok.m;have W:=C.ok.s;rcases su b w i y with e | ⟨k,Z,e⟩
 ·rw[e]at n d;rw[Uf (by omega)]at d;go_enter func129,ntmps129;go_wp2_with (go_at_call 172;refine Ug n.o ?_;rintro e Q ⟨rfl,B⟩;have f:Xr _:=B;clear B);go_ret;exact⟨T0 d.o.symm,f.o⟩
 ·rw[e]at n d;rw[Ud (by omega),UR]at d;have z:k<w.length:=by omega
  have O:(k:Int)<w.length:=by omega
  have P:(0:Int)<=(k:Int):=by omega
  obtain⟨D,r⟩:=bm ((aq w k).k);have S:Xr (∀g,ae [] T g->∃q,z3=some ⟨q,0,none⟩/\q<g.heap.size/\g.cell? ⟨q,k*4+3,none⟩=some (string D)/\g.cell? ⟨L,1,none⟩=some (slice z3 w.length l)/\L<g.heap.size/\Calls prog 93 #[pointer (some ⟨L,0,none⟩),int i64 k,int i64 y] g fun e J=>e=returned (bool (aO w k y))/\J=g):=fun g Y=>by
   have H:=G.Yh Y;obtain⟨-,M,N⟩:=H.cells;obtain⟨q,U,x,-,-,-,I⟩:=H.s.2 k w[k] (Ub z);rw[bX w k z,r.o]at I;exact⟨q,U,x,I,M,N,lZ L k y b s t w _ l g H (by omega) X W⟩
  rw[r.o]at d;clear G;go_enter func129,ntmps129;go_upto_region 4 with (go_at_call 172;refine Ug n.o ?_;rintro e Q ⟨rfl,B⟩;have f:Xr _:=B;clear B)
  obtain⟨q,rfl,x,I,M,N,v⟩:=S.o Q f.o;have j:Xr _:=v;clear v;obtain⟨K,F⟩:=bm (aO w k y);rw[F.o]at j d;obtain⟨u,p⟩:=bm (aA D);rw[p.o]at d;cases A:(u||K)
  ·rw[A]at d;simp only[Bool.or_eq_false_iff]at A;obtain⟨rfl,rfl⟩:=A;rw[Ud (by simp)]at d;go_wp2_with (first | (go_at_call 93;refine Ug j.o ?_;rintro e E ⟨rfl,c⟩;rw[c];clear c) | (go_at_call 123;refine(gW D _).mono ?_;rintro e E ⟨rfl,c⟩;rw[c,p.o];clear c));go_ret;exact⟨T0 d.o.symm,f.o⟩
  ·rw[A,Uf rfl]at d;cases u
   ·have V:K=true:=(by simpa using A);subst V;go_wp2_with (first | (go_at_call 93;refine Ug j.o ?_;rintro e E ⟨rfl,c⟩;rw[c];clear c) | (go_at_call 123;refine(gW D _).mono ?_;rintro e E ⟨rfl,c⟩;rw[c,p.o];clear c));go_ret;exact⟨T0 d.o.symm,f.o⟩
   ·go_wp2_with (first | (go_at_call 93;refine Ug j.o ?_;rintro e E ⟨rfl,c⟩;rw[c];clear c) | (go_at_call 123;refine(gW D _).mono ?_;rintro e E ⟨rfl,c⟩;rw[c,p.o];clear c));go_ret;exact⟨T0 d.o.symm,f.o⟩
def fL(T:List Tk)(S:List Sm)(j:Int):Nat:=if j<0 then 0 else if aA (aq S j.toNat).k=true then(a9 T S j.toNat).length else 0
set_option maxRecDepth 512
theorem KI(v:Value)(T:List Tk)(S:List Sm)(w:World) :
  Calls prog 130 #[v,int i64 (-1)] w fun e b=>e=returned (int i64 (fL T S (-1):Nat))/\ae [] w b:=by
 have a:Xr (fL T S (-1)=0):=rfl;go_enter func130,ntmps130;go_wp2;go_ret;exact⟨by rw[a.o];rfl,ae.refl _ _⟩
set_option maxRecDepth 100000
theorem Av(j:ge T L b s t w z3 l)(k:pM b w y)(D:S<y) :
  Calls prog 130 #[pointer (some ⟨L,0,none⟩),int i64 S] T fun e q=>e=returned (int i64 (fL b w S:Nat))/\ae [] T q:=by
 have K:=k.ok.m;have c:S<w.length:=by omega
 have p:¬(S:Int)<0:=by omega
 have x:(S:Int)<w.length:=by omega
 have z:(0:Int)<=(S:Int):=by omega
 have d:Xr (fL b w S=if aA (aq w S).k=true then(a9 b w S).length else 0):=cM (by unfold fL;rw[Ud p,UR]);obtain⟨-,G,J⟩:=j.cells;obtain⟨I,rfl,C,-,-,-,E⟩:=j.s.2 S w[S] (Ub c);rw[bX w S c]at E
 have B:Xr (aA (aq w S).k=true->Calls prog 63 #[pointer (some ⟨L,0,none⟩),int i64 S] T fun e q=>∃f,e=returned (slice f.ao (a9 b w S).length f.cap)/\ip T q f (bu (a9 b w S))):=fun h=>rG L S b s t w _ l T j (k.mono (by omega)) c (k.e S D (by
  unfold aA at h
  rcases UO _ _ ▸ h with h | h <;> exact fO h (by decide)))
 have r:Xr (aA (aq w S).k=(((aq w S).k.toList == [36,97])||((aq w S).k.toList == [36,112]))):=rfl;clear j k;generalize fL b w S=R at *;generalize (aq w S).k=A at *;generalize aA A=n at *;cases n
 ·rw[Ud (by simp)]at d;have i:=r.o.symm;simp only[Bool.or_eq_false_iff]at i;obtain⟨v,H⟩:=i;go_enter func130,ntmps130;go_wp2;go_ret;exact⟨by rw[d.o];rfl,ae.refl _ _⟩
 ·rw[Uf rfl]at d;have u:Xr _:=B.o rfl;have i:=r.o.symm;cases v:(A.toList == [36,97])
  ·rw[v,Vn]at i;go_enter func130,ntmps130;go_wp2_with (go_at_call 63;refine Ug u.o ?_;rintro e F ⟨f,rfl,g⟩;have a:Xr _:=g.Yu;clear g);go_ret;exact⟨by rw[d.o];rfl,a.o⟩
  ·go_enter func130,ntmps130;go_wp2_with (go_at_call 63;refine Ug u.o ?_;rintro e F ⟨f,rfl,g⟩;have a:Xr _:=g.Yu;clear g);go_ret;exact⟨by rw[d.o];rfl,a.o⟩
def Qc(m:Nat):Xs:=⟨#[UInt8.ofNat (65+m % 20)]⟩
def FZ(m:Nat):Xs:=⟨#[UInt8.ofNat (85+m % 5)]⟩
def v9:Nat->Nat->Xs->Xs
 | 0,_,s=>s
 | f+1,h,s=>if 0<h then v9 f ((h-1) / 5) (FZ (h-1)++s) else s
def mI(m:Nat):Xs:=v9 (m+1) (m / 20) (Qc m)
theorem Kq:(convert 312 9 (slice (some ⟨T.heap.size,0,none⟩) 1 1)).run prog (T.alloc (.cells #[int u8 (65+(l:Int) % 20)] 5))=.ok (string (Qc l)) (T.alloc (.cells #[int u8 (65+(l:Int) % 20)] 5)):=by
 have e:(65+(l:Int) % 20)=((UInt8.ofNat (65+l % 20)).toNat:Int):=by
  rw[UInt8.toNat_ofNat'];omega
 rw[e]
 exact Xd (T.alloc (.cells #[int u8 ((UInt8.ofNat (65+l % 20)).toNat:Int)] 5)) 312 9 5 ⟨T.heap.size,0,none⟩ 1 [UInt8.ofNat (65+l % 20)] underlying312 underlying5 underlying9 (by
  intro j a
  match j,a with
  | 0,_=>simp[Addr.add])
theorem Kr:(convert 312 9 (slice (some ⟨T.heap.size,0,none⟩) 1 1)).run prog (T.alloc (.cells #[int u8 (85+(l:Int) % 5)] 5))=.ok (string (FZ l)) (T.alloc (.cells #[int u8 (85+(l:Int) % 5)] 5)):=by
 have e:(85+(l:Int) % 5)=((UInt8.ofNat (85+l % 5)).toNat:Int):=by
  rw[UInt8.toNat_ofNat'];omega
 rw[e]
 exact Xd (T.alloc (.cells #[int u8 ((UInt8.ofNat (85+l % 5)).toNat:Int)] 5)) 312 9 5 ⟨T.heap.size,0,none⟩ 1 [UInt8.ofNat (85+l % 5)] underlying312 underlying5 underlying9 (by
  intro j a
  match j,a with
  | 0,_=>simp[Addr.add])
theorem FY:v9 v 0 H=H:=by cases v <;> rfl
theorem DO(z:l<=1000000000) :
  Calls prog 241 #[int i64 ((l:Int)+1)] T fun e v=>e=returned (string (mI l))/\ae [] T v:=by
 have a:=fun k=>Kq l k;have b:0<=(l:Int) % 20/\(l:Int) % 20<=19:=by omega
 go_enter func241,ntmps241;go_wp2
 go_loopg [3,4] (l / 20) (fun g u t wr=>∃(f h:Nat) (s:Xs),g=h/\t=int i64 h/\u=string s/\h<=f/\h<=1000000000/\s.size+f<=1000000003/\Xr (v9 f h s=mI l)/\Xr (ae [] T wr))
 ·exact⟨l+1,l / 20,Qc l,rfl,by simp,rfl,by omega,by omega,(by show 1+_<=_;omega),rfl,(ae.refl _ _).alloc _⟩
 obtain⟨f,h,s,x,rfl,rfl,w,y,A,m,n⟩:=hrel;clear a b;cases h with
 | zero =>
  have d:Xr (s=mI l):=cM (by rw[<-m.o,FY]);go_wp2;go_ret;exact⟨by rw[<-d.o];rfl,n.o⟩
 | succ q =>
  obtain⟨c,rfl⟩:∃c,f=c+1:=⟨f-1,by omega⟩
  have a:=fun k=>Kr q k;have p:0<=(q:Int) % 5/\(q:Int) % 5<=4:=by omega
  have r:(0:Int)<(q:Int)+1:=by omega
  have d:Xr (v9 c (q / 5) (FZ q++s)=mI l):=by
   show _=_;rw[<-m.o,v9,Uf (by omega),Vj]
  have j:(FZ q).size=1:=rfl;have i:Xr ((FZ q++s).size=1+s.size):=cM (by rw[ByteArray.size_append,j]);go_wp2;go_roundg (q / 5)
  ·exact⟨c,q / 5,FZ q++s,rfl,by simp,rfl,by omega,by omega,by have:=i.o;omega,d,n.o.alloc _⟩
  omega
def yp(s:Xs)(i:Nat):Bool:=((mI i).toList==s.toList)
def gu(s:Xs)(top:Nat):Nat:=match (List.range top).find? (yp s) with
 | some i=>i+1
 | none=>0
theorem Gm(f:c<d)(h:yp M c=true)(a:∀j,j<c->yp M j=false):gu M d=c+1:=by
 have e:(List.range d).find? (yp M)=some c:=by
  rw[Vp];exact⟨h,Up.2 f,fun j b=>by rw[a j b];rfl⟩
 unfold gu;rw[e]
theorem KP(a:∀j,j<d->yp M j=false):gu M d=0:=by
 have e:(List.range d).find? (yp M)=none:=by
  rw[U8];intro j b;rw[a j (Up.1 b)];simp
 unfold gu;rw[e]
theorem Gl(y:l<=1000000000) :
  Calls prog 214 #[string H,int i64 l] T fun e u=>e=returned (int i64 (gu H l:Nat))/\ae [] T u:=by
 go_enter func214,ntmps214;go_wp2
 go_loopg [5] l (fun g i wr=>∃k:Nat,k<=l/\g=l-k/\i=int i64 ((k:Int)+1)/\Xr (∀j,j<k->yp H j=false)/\Xr (ae [] T wr))
 ·exact⟨0,by omega,rfl,by simp,(fun j s=>by omega),ae.refl _ _⟩
 obtain⟨k,x,w,rfl,f,d⟩:=hrel;by_cases n:k<l
 ·have m:(k:Int)+1<=(l:Int):=by omega
  have p:Xr _:=(DO k wr (by omega));have q:Xr (yp H k=((mI k).toList==H.toList)):=rfl;generalize mI k=t at *;cases r:(t.toList==H.toList)
  ·have b:Xr _:=fc f.o (by rw[q.o,r]);go_wp2_with (go_at_call 241;refine Ug p.o ?_;rintro e v ⟨rfl,c⟩;have a:Xr _:=d.o.trans c;clear c);go_roundg (l-(k+1))
   ·exact⟨k+1,by omega,rfl,by go_num,b,a⟩
   omega
  ·have b:Xr (gu H l=k+1):=Gm n (by rw[q.o,r]) f.o;go_wp2_with (go_at_call 241;refine Ug p.o ?_;rintro e v ⟨rfl,c⟩;have a:Xr _:=d.o.trans c;clear c);go_ret;exact⟨by rw[b.o];rfl,a.o⟩
 ·have b:Xr (gu H l=0):=KP (fun j s=>f.o j (by omega));have m:¬(k:Int)+1<=(l:Int):=by omega
  go_wp2;go_ret;exact⟨by rw[b.o];rfl,d.o⟩
def lm{α:Type}(e s:Nat)(f:α->List Value)(L:List α):ew:=⟨e,s,L.length,L.flatMap f⟩
theorem QE{α:Type}{f:α->List Value}(b:∀x,(f x).length=d)(L:List α)(j:Nat)(t:α)(h:L[j]?=some t)(c:Nat)(g:c<d):(L.flatMap f)[j*d+c]?=(f t)[c]?:=by
 induction L generalizing j with
 | nil=>cases h
 | cons a L e =>
  rw[U4];cases j with
  | zero =>
   simp at h;subst h;rw[Uv (by rw[b];omega)];simp
  | succ j =>
   rw[Ur (by rw[b,Nat.succ_mul];omega),show(j+1)*d+c-(f a).length=j*d+c by rw[b,Nat.succ_mul];omega];exact e j (by simpa using h)
theorem gU{α:Type}(f:α->List Value)(L:List α)(x:α):(⟨(lm v l f L).e,(lm v l f L).size,(lm v l f L).n+1,(lm v l f L).xs++f x⟩:ew)=lm v l f (L++[x]):=by
 simp[lm]
def cN{α:Type}(w:World)(ao:Xu)(s:Nat)(f:α->List Value)(L:List α):Prop:=∀(k:Nat) (x:α),L[k]?=some x->∃g,ao=some ⟨g,0,none⟩/\g<w.heap.size/\∀(c:Nat) (u:Value),(f x)[c]?=some u->w.cell? ⟨g,k*s+c,none⟩=some u
theorem cN.Yh{α:Type}{f:α->List Value}{L:List α}(h:cN n z0 d f L)(k:ae [] n x):cN x z0 d f L:=by
 intro j m i;obtain⟨g,e,a,b⟩:=h j m i;exact⟨g,e,Ul a k.size,fun c u l=>by rw[Uw (k.block g a (by simp))];exact b c u l⟩
theorem aB.srcG{α:Type}{f:α->List Value}{L:List α}(o:aB n k (lm d c f L))(j:∀x,(f x).length=c):cN n k.ao c f L:=by
 intro b x i;have q:=(Uk.1 i).1;obtain⟨g,e,p,-⟩:=rJ o (show 0<L.length by omega);refine⟨g,e,p,fun a u l=>o.cell e (b*c+a) u ?_⟩;have m:a<c:=by rw[<-j x];exact(Uk.1 l).1
 show(L.flatMap f)[b*c+a]?=some u
 rw[QE j L b x i a m];exact l
structure Lt where
 c:Int
 YB:Xs
 YC:Int
 YD:Int
def Ta(l:Lt):List Value:=[int u8 l.c,string l.YB,int i64 l.YC,int i64 l.YD]
theorem Qi(l:Lt):(Ta l).length=4:=rfl
def wh(L:List Lt):ew:=lm 311 4 Ta L
theorem RG:(prog.info? 311).map (fun i=>(i.zero,i.size,i.bytes))=some (some (agg #[int u8 0,string ⟨#[]⟩,int i64 0,int i64 0]),4,40):=by kernel_rfl
def fz(T:List Tk):Prop:=∀t∈T,t.s.size<=1024/\0<=t.YD/\t.YD<=10000
def Ku(t:Tk)(k:Nat):Lt:=⟨aH t.s k,t.YB,t.YC,t.YD+k⟩
def tn(t:Tk):List Lt:=(List.range t.s.size).map (Ku t)
def eR(T:List Tk)(a z:Nat):List Lt:=((T.drop a).take (z-a)).flatMap tn
theorem EH(d:v<=l)(f:l<b.length):eR b v (l+1)=eR b v l++tn b[l]:=by
 unfold eR;have e:l+1-v=(l-v)+1:=by omega
 have c:l-v<(b.drop v).length:=by rw[UX];omega
 rw[e,UY c,Vz];have a:(b.drop v)[l-v]=b[l]:=by rw[WJ];congr 1;omega
 rw[a];simp
theorem LA(t:Tk)(k:Nat)(h:k<t.s.size):(tn t).take (k+1)=(tn t).take k++[Ku t k]:=by
 unfold tn;rw[UY (by simpa using h)];simp
theorem GR(hT:lX T s t b)(hl:b.length<=10000)(ha:v<=l)(hz:l<=b.length)(hO:fz b) :
  Calls prog 176 #[slice s b.length t,int i64 v,int i64 l] T fun e f=>∃w,e=returned (slice w.ao (eR b v l).length w.cap)/\ip T f w (wh (eR b v l)):=by
 have HT:Xr _:=hT;have X:Xr (ip T T ⟨none,0⟩ (wh [])):=⟨Uj _ _ _ _,(by intro k hk;cases hk),ae.refl _ _⟩;obtain⟨iL,af,H,I,J⟩:=UC RG;have R:Xr (([]:List Lt)=eR b v v):=cM (by unfold eR;simp);clear hT;go_enter func176,ntmps176;go_wp2
 go_loopg [7,8] (l-v) (fun g o i wr=>∃(k:Nat) (w:Hd) (O:List Lt),(v<=k/\k<=l)/\g=l-k/\o=slice w.ao O.length w.cap/\i=int i64 k/\O.length<=1024*k/\Xr (O=eR b v k)/\Xr (ip T wr w (wh O)))
 ·exact⟨v,⟨none,0⟩,[],⟨by omega,by omega⟩,rfl,rfl,rfl,by simp,R,X⟩
 obtain⟨k,w,O,⟨ag,ap⟩,hg,rfl,rfl,al,HE,HW⟩:=hrel;by_cases ax:k<l
 ·have y:k<b.length:=by omega
  have ar:(k:Int)<(l:Int):=by omega
  have ai:(k:Int)<b.length:=by omega
  have Y:Xr (O++tn b[k]=eR b v (k+1)):=cM (by rw[EH b v k ag y,<-HE.o]);obtain⟨o1,o2,o3⟩:=hO b[k] (Uu y);obtain⟨j,rfl,ad,-⟩:=HT.o.2 k b[k] (Ub y);have HC:Xr (∀f,ae [] T f->f.cell? ⟨j,k*5,none⟩=some (string b[k].s)/\f.cell? ⟨j,k*5+2,none⟩=some (string b[k].YB)/\f.cell? ⟨j,k*5+3,none⟩=some (int i64 b[k].YC)/\f.cell? ⟨j,k*5+4,none⟩=some (int i64 b[k].YD)):=fun f kw=>by
   obtain⟨g,e,hg,c0,c1,c2,c3,c4⟩:=(lX.Yh HT.o kw).2 k b[k] (Ub y);cases e
   exact⟨c0,c2,c3,c4⟩
  generalize b[k]=aT at *;obtain⟨c,K,q,r,p⟩:=aT;simp only at o1 o2 o3 HC;go_wp2_with fail
  go_loopg [7,9] c.size (fun g o i wr=>∃(m:Nat) (A:Hd) (P:List Lt),m<=c.size/\g=c.size-m/\o=slice A.ao P.length A.cap/\i=int i64 m/\P.length<=O.length+m/\Xr (P=O++(tn ⟨c,K,q,r,p⟩).take m)/\Xr (ip T wr A (wh P)))
  ·exact⟨0,w,O,by omega,rfl,rfl,rfl,by omega,by show _=_;simp,HW⟩
  obtain⟨m,A,P,hm,an,rfl,rfl,hP,D,d⟩:=hrel;obtain⟨c0,c2,c3,c4⟩:=HC.o wr d.o.Yu;have G:j<wr.heap.size:=Ul ad d.o.Yu.size;rcases kn m c.size with ⟨a,az⟩ | ⟨a,-⟩
  ·have S:Xr (P++[Ku ⟨c,K,q,r,p⟩ m]=O++(tn ⟨c,K,q,r,p⟩).take (m+1)):=(by show _=_;rw[D.o,LA _ m a,Vs]);have U:Xr (Ta (Ku ⟨c,K,q,r,p⟩ m)=[int u8 ((c[m]'a).toNat:Int),string q,int i64 r,int i64 (p+m)]):=cM (by unfold Ta Ku;simp only;rw[bZ c m a]);obtain⟨W,z⟩:=bm (wr.alloc (.cells #[string q,int i64 r,int i64 (p+m)] 36));have N:=fg z.o;have L:=fE z.o;have E:Xr _:=d.o.Yh N;have ac:=E.o.YF;have d0:W.cell? ⟨j,k*5,none⟩=some (string c):=(by rw[Uw (N.block j G (by simp))];exact c0);obtain⟨d1,d2,d3⟩:=xy L;have HS:Xr (∀x h5,bJ W x A h5->x.cell? ⟨j,k*5,none⟩=some (string c)/\x.cell? ⟨wr.heap.size,0,none⟩=some (string q)/\x.cell? ⟨wr.heap.size,1,none⟩=some (int i64 r)/\x.cell? ⟨wr.heap.size,2,none⟩=some (int i64 (p+m))):=fun x h5 gr=>by
    have q1:x.heap[j]?=W.heap[j]?:=gr.Yu.block j (Ul G N.size) (fun hq=>by have:=d.o.far _ (aR hq);omega);have Q:x.heap[wr.heap.size]?=W.heap[wr.heap.size]?:=gr.Yu.block _ (aj L) (fun hq=>by have:=d.o.YF.lt (aR hq);omega);exact⟨by rw[Uw q1];exact d0,by rw[Uw Q];exact d1,by rw[Uw Q];exact d2,by rw[Uw Q];exact d3⟩
   have aS:wr.heap.size<W.heap.size:=aj L;clear L N;(go_upto_region 10 with fail);rw[z.o];have s3:Xr (∀u∈([int u8 ((c[m]'a).toNat:Int),string q,int i64 r,int i64 (p+m)]:List Value),u.oneCell'=true):=by
    intro u hu;simp only[List.mem_cons,List.not_mem_nil,or_false]at hu;rcases hu with rfl | rfl | rfl | rfl <;> rfl
   have s4:Xr ((wh P).n<=900000000):=(by show P.length<=_;omega);go_region_held3 (fun f=>f.cell? ⟨j,k*5,none⟩=some (string c)/\f.cell? ⟨wr.heap.size,0,none⟩=some (string q)/\f.cell? ⟨wr.heap.size,1,none⟩=some (int i64 r)/\f.cell? ⟨wr.heap.size,2,none⟩=some (int i64 (p+m))) (go_keep) ((refine bY W (by rfl) (.tmp 37) (.tmp 47) 267 (by rfl) iL (agg #[int u8 0,string ⟨#[]⟩,int i64 0,int i64 0]) 40 A (wh P) [int u8 ((c[m]'a).toNat:Int),string q,int i64 r,int i64 (p+m)] underlying267 af H I J rfl (show 0<4 by omega) (by simp[Act.eval] <;> rfl) ac s4.o (by omega) (by simp[Act.eval]) rfl s3.o ?_;intro Z F x C B;obtain⟨q1,Q,q3,q4⟩:=HS.o x _ B));rw[<-U.o,wh,gU]at C;have V:Xr _:=E.o.Yr B C;clear C B;go_wp2;go_roundg (c.size-(m+1))
   ·exact⟨m+1,⟨Z,F⟩,P++[Ku ⟨c,K,q,r,p⟩ m],by omega,rfl,by simp[wh,lm],by go_num,by simp;omega,S,V⟩
   omega
  ·have e:m=c.size:=(by omega);subst e;have M:Xr (P=eR b v (k+1)):=by
    show _=_;rw[D.o,<-Y.o];congr 1;rw[VG (by unfold tn;simp)]
   go_wp2;go_roundg (l-(k+1))
   ·exact⟨k+1,A,P,⟨by omega,by omega⟩,rfl,rfl,by go_num,by omega,M,d⟩
   omega
 ·have e:k=l:=by omega
  subst e;have M:Xr (eR b v k=O):=HE.o.symm;go_wp2;go_ret;exact⟨w,by rw[M.o];rfl,by rw[M.o];exact HW.o⟩
structure ci where
  ref:Int
  back:Nat
  need:Nat
  YB:Xs
  YC:Int
  YD:Int
def lp(s:ci):List Value:=[int i64 s.ref,int i64 s.back,int i64 s.need,string s.YB,int i64 s.YC,int i64 s.YD]
theorem Ox(s:ci):(lp s).length=6:=rfl
def fB(L:List ci):ew:=lm 162 6 lp L
theorem n8(L:List ci)(x:ci):(⟨(fB L).e,(fB L).size,(fB L).n+1,(fB L).xs++lp x⟩:ew)=fB (L++[x]):=gU _ _ _ _ _
theorem uI(x:ci):∀u∈lp x,u.oneCell'=true:=by
  intro u a;simp only[lp,List.mem_cons,List.not_mem_nil,or_false]at a;rcases a with rfl | rfl | rfl | rfl | rfl | rfl <;> rfl
structure jW where
  st:List ci
  why:Int
  YB:Xs
  YC:Int
  YD:Int
def Tb(p:jW)(h:Hd):Value:=agg #[slice h.ao p.st.length h.cap,int i64 p.why,string p.YB,int i64 p.YC,int i64 p.YD]
theorem Nx:(prog.info? 162).map (fun i=>(i.zero,i.size,i.bytes))=some (some (agg #[int i64 0,int i64 0,int i64 0,string ⟨#[]⟩,int i64 0,int i64 0]),6,56):=by kernel_rfl
theorem fR{l m o p q:Value}(h:n.heap[d]?=some (.cells #[l,m,o,p,q] 122))(a b c e f:Value) :
    (n.setCell ⟨d,0,none⟩ a).cell? ⟨d,0,none⟩=some a/\((n.setCell ⟨d,0,none⟩ a).setCell ⟨d,1,none⟩ b).cell? ⟨d,1,none⟩=some b/\(((n.setCell ⟨d,0,none⟩ a).setCell ⟨d,1,none⟩ b).setCell ⟨d,2,none⟩ c).cell? ⟨d,2,none⟩=some c/\((((n.setCell ⟨d,0,none⟩ a).setCell ⟨d,1,none⟩ b).setCell ⟨d,2,none⟩ c).setCell ⟨d,3,none⟩ e).cell? ⟨d,3,none⟩=some e/\(((((n.setCell ⟨d,0,none⟩ a).setCell ⟨d,1,none⟩ b).setCell ⟨d,2,none⟩ c).setCell ⟨d,3,none⟩ e).setCell ⟨d,4,none⟩ f).cell? ⟨d,4,none⟩=some f:=by
  have g:=ab h 0 a;have i:=ab g 1 b;have j:=ab i 2 c;have k:=ab j 3 e;have r:=ab k 4 f;exact⟨by rw[ah g];rfl,by rw[ah i];rfl,by rw[ah j];rfl,by rw[ah k];rfl,by rw[ah r];rfl⟩
def wO(c:Int):Xs:=⟨#[UInt8.ofNat c.toNat]⟩
theorem Pu(c:Int)(d:0<=c/\c<256)(a:World):(convert 312 9 (slice (some ⟨a.heap.size,0,none⟩) 1 1)).run prog (a.alloc (.cells #[int u8 c] 5))=.ok (string (wO c)) (a.alloc (.cells #[int u8 c] 5)):=by
  have e:c=((UInt8.ofNat c.toNat).toNat:Int):=by
    rw[UInt8.toNat_ofNat'];omega
  unfold wO;generalize UInt8.ofNat c.toNat=u at *;rw[e]
  exact Xd (a.alloc (.cells #[int u8 (u.toNat:Int)] 5)) 312 9 5 ⟨a.heap.size,0,none⟩ 1 [u] underlying312 underlying5 underlying9 (by
    intro j b
    match j,b with
    | 0,_=>simp[Addr.add])
def oI(why:Int)(l:Lt):jW:=⟨[],why,l.YB,l.YC,l.YD⟩
def p9(T:List Tk)(S:List Sm)(refs tags:Xv)(n:Nat)(l:Lt):ci :=
  if n<=refs.length then⟨(refs.getD (n-1) 0:Nat),0,fL T S (refs.getD (n-1) 0:Nat),l.YB,l.YC,l.YD⟩ else⟨-2,tags.getD (n-refs.length-1) 0,0,l.YB,l.YC,l.YD⟩
def mP(T:List Tk)(S:List Sm)(refs:Xv)(en:Lt):List Lt->List ci->Xv->Xs->Bool->jW
  | [],P,_,num,_=>if(num.toList == [])=false then oI 4 en else if P.length=0 then oI 1 en else⟨P,0,⟨#[]⟩,0,0⟩
  | l :: r,P,tags,num,fr =>
    if 85<=l.c/\l.c<=89 then mP T S refs en r P tags (num++wO l.c) false
    else if 65<=l.c/\l.c<=84 then
      (if gu (num++wO l.c) (refs.length+tags.length)=0 then oI 5 l
       else mP T S refs en r (P++[p9 T S refs tags (gu (num++wO l.c) (refs.length+tags.length)) l]) tags ⟨#[]⟩ true)
    else if l.c=90/\fr=true then mP T S refs en r P (tags++[P.length-1]) num false
    else if l.c=63/\(num.toList == [])=true then mP T S refs en r (P++[⟨-1,0,0,l.YB,l.YC,l.YD⟩]) tags num false
    else oI 4 l
def km(T:List Tk)(S:List Sm)(refs:Xv)(en:Lt)(L:List Lt):jW:=mP T S refs en L [] [] ⟨#[]⟩ false
theorem Aw:gu H l<=l:=by
  unfold gu;cases h:(List.range l).find? (yp H) with
  | none=>exact UF _
  | some i=>have:=Up.1 (UV h);show i+1<=l;omega
structure Iq(w wr:World)(en:Lt)(P:List ci)(h:Hd)(tags:Xv)(ht:Hd):Prop where
  e:wr.heap[w.heap.size]?=some (.cells #[string en.YB,int i64 en.YC,int i64 en.YD] 36)
  r:wr.heap[w.heap.size+1]?=some (.cells #[slice none 0 0,int i64 0,string ⟨#[]⟩,int i64 0,int i64 0] 122)
  p:wr.heap[w.heap.size+2]?=some (.cells #[slice h.ao P.length h.cap,int i64 0,string ⟨#[]⟩,int i64 0,int i64 0] 122)
  op:aB wr h (fB P)
  ot:aB wr ht (bu tags)
  fp:∀k,h.Yv=some k->w.heap.size+2<k
  ft:∀k,ht.Yv=some k->w.heap.size+2<k
  ap:∀k,h.Yv=some k->ht.Yv≠some k
  Yu:ae [] w wr
theorem Iq.Yh{c:Lt}{P:List ci}(a:Iq n x c P k D I)(b:ae [] x o):Iq n o c P k D I :=
  ⟨b.get a.e (by simp),b.get a.r (by simp),b.get a.p (by simp),a.op.Yh b,a.ot.Yh b,a.fp,a.ft,a.ap,a.Yu.trans b⟩
theorem qM(k:ae D x o)(c:∀q∈D,n.heap.size<=q)(a:ae [] n x):ae [] n o :=
  ⟨k.os.trans a.os,k.tape.trans a.tape,k.output.trans a.output,Un a.size k.size,fun q b _=>by
    rw[k.block q (Ul b a.size) (fun d=>by have:=c q d;omega),a.block q b (by simp)]⟩
theorem Iq.addT{l:Lt}{P:List ci}{b:Xv}(a:Iq n x l P k D I)(g:bJ x o I N)(s:aB o N (bu b)):Iq n o l P k b N:=by
  have j:∀q,q<=n.heap.size+2->q∉I.Yv.toList:=fun q i m=>by have:=a.ft q (aR m);omega
  have t:=aj a.p;refine⟨g.Yu.get a.e (j _ (by omega)),g.Yu.get a.r (j _ (by omega)),g.Yu.get a.p (j _ (by omega)),g.beside a.op (fun f c=>a.ap f c),s,a.fp,fun f c=>?_,fun f c d=>?_,qM g.Yu (fun q i=>by have:=a.ft q (aR i);omega) a.Yu⟩
  · rcases g.Yv with e | ⟨q,e,i⟩
    · exact a.ft f (by rw[<-e];exact c)
    · rw[e]at c;cases c;omega
  · rcases g.Yv with e | ⟨q,e,i⟩
    · exact a.ap f c (by rw[<-e];exact d)
    · rw[e]at d;cases d
      have:=a.op.lt c;omega
theorem Iq.addP{v:Lt}{P l:List ci}(a:Iq n x v P k D I)(g:bJ x o k N)(w:aB o N (fB l)){m:Nat}(t:m=l.length):Iq n (o.setCell ⟨n.heap.size+2,0,none⟩ (slice N.ao m N.cap)) v l N D I:=by
  subst t;have u:∀q,q<=n.heap.size+2->q∉k.Yv.toList:=fun q b t=>by have:=a.fp q (aR t);omega
  have C:=aj a.p;have y:=g.Yu.get a.e (u _ (by omega));have B:=g.Yu.get a.r (u _ (by omega));have A:=g.Yu.get a.p (u _ (by omega));have i:∀f,N.Yv=some f->n.heap.size+2<f:=fun f c=>by
    rcases g.Yv with e | ⟨q,e,b⟩
    · exact a.fp f (by rw[<-e];exact c)
    · rw[e]at c;cases c;omega
  have j:aB o I (bu D):=g.beside a.ot (fun f c d=>a.ap f d c);have s:ae [n.heap.size+2] o (o.setCell ⟨n.heap.size+2,0,none⟩ (slice N.ao l.length N.cap)):=(ae.refl _ _).sl1 _;refine⟨s.get y (by simp),s.get B (by simp),by rw[ab A];rfl,w.Ym (fun q b=>s.block q (w.lt b) (by simp;have:=i q b;omega)),j.Ym (fun q b=>s.block q (j.lt b) (by simp;have:=a.ft q b;omega)),i,a.ft,fun f c d=>?_,?_⟩
  · rcases g.Yv with e | ⟨q,e,b⟩
    · exact a.ap f (by rw[<-e];exact c) d
    · rw[e]at c;cases c
      have:=a.ot.lt d;omega
  · have z:ae [] n o:=qM g.Yu (fun q b=>by have:=a.fp q (aR b);omega) a.Yu
    exact z.sr1 (by simp) _
theorem Iq.cells{b:Lt}{P:List ci}(a:Iq n x b P k D I) :
    (x.cell? ⟨n.heap.size,0,none⟩=some (string b.YB)/\x.cell? ⟨n.heap.size,1,none⟩=some (int i64 b.YC)/\x.cell? ⟨n.heap.size,2,none⟩=some (int i64 b.YD)) /\
    (x.cell? ⟨n.heap.size+1,0,none⟩=some (slice none 0 0)/\x.cell? ⟨n.heap.size+1,1,none⟩=some (int i64 0)/\x.cell? ⟨n.heap.size+1,2,none⟩=some (string ⟨#[]⟩)/\x.cell? ⟨n.heap.size+1,3,none⟩=some (int i64 0)/\x.cell? ⟨n.heap.size+1,4,none⟩=some (int i64 0)) /\
    (x.cell? ⟨n.heap.size+2,0,none⟩=some (slice k.ao P.length k.cap)/\x.cell? ⟨n.heap.size+2,1,none⟩=some (int i64 0)/\x.cell? ⟨n.heap.size+2,2,none⟩=some (string ⟨#[]⟩)/\x.cell? ⟨n.heap.size+2,3,none⟩=some (int i64 0)/\x.cell? ⟨n.heap.size+2,4,none⟩=some (int i64 0)) /\
    (x.frozen? ⟨n.heap.size+1,0,none⟩=false/\x.frozen? ⟨n.heap.size+1,1,none⟩=false/\x.frozen? ⟨n.heap.size+1,2,none⟩=false/\x.frozen? ⟨n.heap.size+1,3,none⟩=false/\x.frozen? ⟨n.heap.size+1,4,none⟩=false)/\x.frozen? ⟨n.heap.size+2,0,none⟩=false/\n.heap.size+2<x.heap.size:=by
  refine⟨⟨?_,?_,?_⟩,⟨?_,?_,?_,?_,?_⟩,⟨?_,?_,?_,?_,?_⟩,⟨am a.r 0,am a.r 1,am a.r 2,am a.r 3,am a.r 4⟩,am a.p 0,aj a.p⟩
  all_goals first | (rw[ah a.e];rfl) | (rw[ah a.r];rfl) | (rw[ah a.p];rfl)
end Go.Proofs.YtnbhnocdhbcbcaaGreat
