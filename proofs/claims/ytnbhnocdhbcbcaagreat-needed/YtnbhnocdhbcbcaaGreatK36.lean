import Derived.OwnWalk
import Derived.Test.YtnbhnocdhbcbcaaGreatK32
import Derived.Test.YtnbhnocdhbcbcaaGreatK35
namespace Go.Proofs.YtnbhnocdhbcbcaaGreat
open Go.RowKit Tryz
open Value IntKind Ending
set_option maxHeartbeats 0
variable{k m z4:World}{t z7 y5:Hd}{I y9:Nat}{z5 y3 ya:Xt}{y6:List Bool}{yd:Fs}{y7:Nat×Nat->It}(D M:Nat)(L:Nat×Nat->It)(v:Mc)(y4:Hd)(s:List Tx)(g:Int)(o:Nat)(S:Fs)(zt:Hd)(i y l:Nat)(w:List St)(N:Nat->Hd)(T:Nat)(z3:Option Nat)(x:Xs)(H:List Rw)(z6:Nat)(y0:List kD)(d:Nat)(b:World)
theorem Br(h:jB b i y w N T H) :
  Calls prog 100 #[pointer (some ⟨i,y,none⟩),int i64 l] b fun e g=>e=returned (bool (nP H l))/\g=b:=by
 have d:Xr _:=oo i y l w N T H b h;have c:Xr (nP H l=((eO H l==4)||(eO H l==5))):=rfl;clear h;generalize eO H l=v at *;cases f:(v==4)
 ·rw[f,UN]at c;go_enter func100,ntmps100;go_wp2_with (go_at_call 96;refine Ts d.o ?_;rintro e j ⟨rfl,a⟩;rw[a]);go_ret;exact⟨aF c.o.symm,rfl⟩
 ·rw[f,Vo]at c;go_enter func100,ntmps100;go_wp2_with (go_at_call 96;refine Ts d.o ?_;rintro e j ⟨rfl,a⟩;rw[a]);go_ret;exact⟨aF c.o.symm,rfl⟩
theorem Ns(c:Pl)(b:List (Xs×Pl)):∀a,((dN w d c b a).2.1==0)=false->(dN w d c b a).1=[]:=by
 induction b with
 | nil =>
  intro a;rw[dN];split
  ·intro _;rfl
  ·intro h;cases h
 | cons x r e =>
  intro a;obtain⟨t,p⟩:=x;rw[dN];split
  ·exact e _
  ·split
   ·intro _;rfl
   ·exact e _
theorem PZ(s:St):((dC w d s).2.1==0)=false->(dC w d s).1=[]:=by
 unfold dC;split
 ·unfold kP mZ;split
  ·split
   ·split
    ·intro _;rfl
    ·intro h;cases h
   ·intro _;rfl
  ·intro _;rfl
 ·exact Ns _ _ _ _ _
def vY(steps:List kD)(k:Nat):Xv:=(steps.take k).filterMap pI
theorem Ke(h:d<y0.length)(a:(y0[d].XU==2)=true):vY y0 (d+1)=vY y0 d++[y0[d].XA]:=by
 unfold vY;rw[Up h,Vx];congr 1;rw[WR,List.filterMap_nil];unfold pI;rw[Tr a]
theorem Nn(h:d<y0.length)(a:(y0[d].XU==2)=false):vY y0 (d+1)=vY y0 d:=by
 unfold vY;rw[Up h,Vx,WR,List.filterMap_nil];unfold pI;rw[Tp (by rw[a];simp),TY]
set_option maxRecDepth 100000
theorem Kf(h:jB b i y w N T H)(ok:jV w)(hn:l<w.length)(D:rX w[l]) :
  Calls prog 138 #[pointer (some ⟨i,y,none⟩),int i64 l] b fun e w'=>∃g:Hd,e=returned (slice g.ao (o8 w l).length g.cap)/\ip b w' g (bD (o8 w l)):=by
 obtain⟨i0,hi,an,ap,ar⟩:=TZ xO;have M:Xr _:=Ag i y l w N b h.recd hn ok D;have ai:=(F3 w l ok hn D).len;have HB:Xr _:=PZ w l w[l];have V:Xr (o8 w l=(dC w l w[l]).1.filterMap pI):=ci (by unfold o8;rw[Tn hn]);clear h D;generalize dC w l w[l]=PF at *;obtain⟨a,F,pp⟩:=PF;simp only at M ai HB V;go_enter func138,ntmps138;go_upto_region 3 with (go_at_call 101;refine Ts M.o ?_;rintro e w3 ⟨g,rfl,B,ax,k3⟩;unfold iw)
 obtain⟨E,s⟩:∃E,E=w3.alloc (.cells #[int i64 F,string pp.XZ,int i64 pp.X0,int i64 pp.X3] 165):=⟨_,rfl⟩
 have k4:ae [] b E:=by rw[s];exact k3.alloc _
 have B9:E.heap[w3.heap.size]?=some (.cells (Dc (F,pp)) 165):=by rw[s];exact Tu _ _
 have r:aB E g (gu a):=by rw[s];exact B.XJ (fun x m=>(bR.alloc _).block x (B.lt m) (by simp))
 rw[<-s];clear s B k3;have f0:E.cell? ⟨w3.heap.size,0,none⟩=some (int i64 F):=by rw[ah B9];rfl
 have J:Xr _:=k4;obtain⟨AO,G⟩:=bn (g.ao);rw[G.o];cases hz:(F==0)
 ·have I:Xr _:=HB.o hz;have al:(F != 0)=true:=by simp[bne,hz]
  go_wp2;go_ret;refine⟨⟨none,0⟩,?_,?_⟩
  ·rw[V.o,I.o];rfl
  ·rw[V.o,I.o];exact⟨Ty _ _ _ _,(by intro k hk;cases hk),J.o⟩
 ·have al:(F != 0)=false:=by simp[bne,hz]
  have ac:Xr _:=r;clear r HB k4;go_wp2
  go_loopg [5,8] a.length (fun gk sv a2 wr=>∃(k:Nat) (p:Hd) (d:Xv),k<=a.length/\gk=a.length-k/\sv=slice p.ao d.length p.cap/\a2=int i64 k/\d.length<=k/\Xr (d=vY a k)/\Xr (aB wr p (bD d))/\Xr (∀x,p.XS=some x->b.heap.size<=x)/\Xr (ae [] b wr)/\Xr (aB wr g (gu a))/\Xr (∀x,p.XS=some x->g.XS≠some x))
  ·exact⟨0,⟨none,0⟩,[],by omega,rfl,rfl,rfl,Tq _,rfl,Ty _ _ _ _,(by intro x m;cases m),J,ac,(by intro x m;cases m)⟩
  obtain⟨k,p,d,hk,aT,rfl,rfl,az,HA,W,U,HK,X,A⟩:=hrel;rcases kn k a.length with ⟨v,a0⟩ | ⟨v,a1⟩
  ·obtain⟨gp,ep,av,ad,d0,d1,-⟩:=X.o.step k v;obtain rfl:AO=some ⟨gp,0,none⟩:=G.o.symm.trans ep;clear ep;have HY:Xr _:=Ke a k v;have HX:Xr _:=Nn a k v;generalize a[k]=o at *;cases hb:(o.XU==2)
   ·have HT:Xr _:=HX.o hb;clear HX HY;go_wp2;go_roundg (a.length-(k+1))
    ·exact⟨k+1,p,d,by omega,rfl,rfl,by go_num,by omega,by show _=_;rw[HT.o];exact HA.o,W,U,HK,X,A⟩
    omega
   ·have HT:Xr _:=HY.o hb;have r:=W.o.XJ (fun x m=>((ae.refl [] wr).alloc (.cells #[int i64 o.XA] 3)).block x (W.o.lt m) (by simp));have K:Xr (aB (wr.alloc (.cells #[int i64 o.XA] 3)) g (gu a)):=X.o.XJ (fun x m=>((ae.refl [] wr).alloc _).block x (X.o.lt m) (by simp));have z:Xr (ae [] b (wr.alloc (.cells #[int i64 o.XA] 3))):=HK.o.alloc _;clear HX HY;go_wp2_with (at_builtin;refine aL _ rfl (.tmp 32) (.tmp 38) 24 rfl i0 (int i64 0) 8 p (bD d) underlying24 hi an ap ar rfl TR rfl (by exact r) ⟨_,0,none⟩ 1 1 [int i64 o.XA] rfl rfl ?d1 ?d2 TR ?d3 ?d4 ?_)
    case d1=>intro j u Y;match j,Y with | 0,Y=>simp at Y;subst Y;simp[Addr.add]
    case d2=>intro u hu;simp at hu;subst hu;rfl
    case d3=>simp only[bD];unfold maxLen;omega
    case d4=>simp only[bD];omega
    intro n f S C t c;have R:(wr.alloc (.cells #[int i64 o.XA] 3)).heap.size=wr.heap.size+1:=by simp
    replace c:p.XS=some n∨(wr.alloc (.cells #[int i64 o.XA] 3)).heap.size<=n:=(by rw[R];exact c);rw[l4 d o.XA]at C;have P:=z.o.grown t U.o;have GT:bq (wr.alloc (.cells #[int i64 o.XA] 3)) S p ⟨some ⟨n,0,none⟩,f⟩:=bq.made t c;have Q:aB S g (gu a):=GT.beside K.o (fun q Z ag=>A.o q ag Z);have aS:b.heap.size<=n:=by
     rcases c with e | e
     ·exact U.o n e
     ·have:=z.o.size;omega
    have O:∀x,(⟨some ⟨n,0,none⟩,f⟩:Hd).XS=some x->g.XS≠some x:=fun x m Z=>by
     have e:n=x:=(by simpa [Hd.XS] using m);subst e;rcases c with e | e
     ·exact A.o n e Z
     ·have:=K.o.lt Z;omega
    have af:Xr ((bD d).n+1=(d++[o.XA]).length):=ci (by simp[bD]);rw[af.o];have L:Xr (aB S ⟨some ⟨n,0,none⟩,f⟩ (bD (d++[o.XA]))/\ae [] b S/\aB S g (gu a)/\(∀x,(⟨some ⟨n,0,none⟩,f⟩:Hd).XS=some x->g.XS≠some x)/\(∀x,(⟨some ⟨n,0,none⟩,f⟩:Hd).XS=some x->b.heap.size<=x)):=⟨C,P,Q,O,by intro x m;simp[Hd.XS]at m;omega⟩;clear t c r C P Q O GT R;go_wp2;go_roundg (a.length-(k+1))
    ·exact⟨k+1,⟨some ⟨n,0,none⟩,f⟩,d++[o.XA],by omega,rfl,rfl,by go_num,by rw[Tv];show _+1<=_;omega,by show _=_;rw[HT.o,<-HA.o],L.o.1,L.o.2.2.2.2,L.o.2.1,L.o.2.2.1,L.o.2.2.2.1⟩
    omega
  ·have I:Xr (d=o8 w l):=by
    show _=_;rw[HA.o,V.o];unfold vY;rw[Vf (by omega)]
   go_wp2;go_ret;exact⟨p,by rw[<-I.o];rfl,by rw[<-I.o];exact⟨W.o,U.o,HK.o⟩⟩
theorem PP{l:Xv}(h:aB k t (bD l))(d:I<l.length):∃g,t.ao=some ⟨g,0,none⟩/\g<k.heap.size/\k.cell? ⟨g,I,none⟩=some (int i64 (l[I]:Nat))/\l.length<=t.cap:=by
 rcases h.XP with ⟨-,e,-⟩ | ⟨g,b,a,f,c,-⟩
 ·have e:l.length=0:=e;omega
 ·exact⟨g,a,h.lt (by unfold Hd.XS;rw[a];rfl),h.cell a I _ (by simp[bD,kj,d]),c⟩
theorem BU(h:jB b i y w N T H)(ok:jV w)(ha:l<w.length)(F:∀n (A:n<w.length),rX w[n]) :
  Calls prog 97 #[pointer (some ⟨i,y,none⟩),int i64 l] b fun e I=>e=returned (slice (some ⟨b.heap.size,0,none⟩) w.length w.length)/\gW I b.heap.size (mG w H l)/\ae [] b I:=by
 have a4:=ok.len;obtain⟨i1,ax,a1,a2,a3⟩:=TZ Fo;have Y:Xr _:=fa i y w N b h.recd;have m2:=fun b=>dG (P:=prog) b 134 4 i1 _ underlying134 ax a1 w.length 1 a2 (by rw[a3];omega) (by omega);obtain⟨V,O⟩:=bn (madeCells (bool false).cells (w.length*1));have K:Xr (V=((List.replicate w.length false).map bool).toArray):=ci (by rw[<-O.o,sS]);rw[O.o]at m2;have m3:=m2 b;obtain⟨W,HW⟩:=bn (b.alloc (.cells (V.setIfInBounds l (bool true)) 4));have v:gW (b.alloc (.cells V 4)) b.heap.size (List.replicate w.length false):=by
  unfold gW;rw[K.o];exact Tu _ _
 have av:Xr (gW W b.heap.size ((List.replicate w.length false).set l true)):=by
  show gW _ _ _;unfold gW;rw[<-HW.o,K.o];refine(Tu _ _).trans ?_;congr 2;rw[Uu,VI]
 have af:Xr _:=fI HW.o;have Q:(b.alloc (.cells V 4)).cell? ⟨b.heap.size,l,none⟩=some (bool false):=v.cell l false (by rw[UP,Tr (by omega)]);have f0:=am v l;have z0:=aj v;have a6:(l:Int)<w.length:=by omega
 have bj:¬(l:Int)<0:=by omega
 have bg:¬w.length<=l:=by omega
 have ac:Xr (∀n s,ae [] b s->Calls prog 100 #[pointer (some ⟨i,y,none⟩),int i64 (n:Nat)] s fun e I=>e=returned (bool (nP H n))/\I=s):=fun n s k=>Br i y n w N T H s (h.XE k);have an:Xr (∀n s,n<w.length->ae [] b s->Calls prog 138 #[pointer (some ⟨i,y,none⟩),int i64 (n:Nat)] s fun e I=>∃z:Hd,e=returned (slice z.ao (o8 w n).length z.cap)/\ip s I z (bD (o8 w n))):=fun n s A k=>Kf i y n w N T H s (h.XE k) ok A (F n A);have al:Xr (∀n,(o8 w n).length<=1100000):=fun n=>by
  unfold o8;by_cases A:n<w.length
  ·rw[Tn A];have h1:=Wl pI (dC w n w[n]).1;have h2:=(F3 w n ok A (F n A)).len;simp only;omega
  ·rw[Un (by omega)];simp
 clear h F v m2;go_enter func97,ntmps97;go_upto_region 5 with (go_at_call 81;refine Ts Y.o ?_;rintro e wc ⟨rfl,R⟩;rw[R];clear R)
 rw[HW.o];clear Q f0 z0 m3;go_wp2
 go_loopg [6] (l+1) (fun gk nv wr=>∃(k:Nat) (d:List Bool),k<=l+1/\gk=k/\nv=int i64 ((k:Int)-1)/\d.length=w.length/\Xr (lr w H k d=mG w H l)/\Xr (gW wr b.heap.size d)/\Xr (ae [] b wr))
 ·exact⟨l+1,_,Tq _,rfl,by simp,by simp,rfl,av,af⟩
 obtain⟨k,d,hk,bc,rfl,E,U,f,G⟩:=hrel;cases k with
 | zero =>
  go_wp2;go_ret;exact⟨rfl,by rw[<-U.o];exact f.o,G.o⟩
 | succ k =>
  have az:(((k+1:Nat):Int)-1)=(k:Int):=by omega
  rw[az];have a7:(k:Int) ≥ 0:=by omega
  have aS:k<w.length:=by omega
  have bf:(k:Int)<w.length:=by omega
  have Q:=f.o.cell k (d.getD k false) (by rw[To,Tn (by omega)];rfl);have z0:=aj f.o;have c:Xr _:=ac.o k wr G.o;have j:Xr (¬(d.getD k false=true/\nP H k=true)->lr w H k d=mG w H l):=fun A=>by
   have:=U.o;rw[lr]at this;unfold mS at this;rw[Tp A]at this;exact this
  cases hm:d.getD k false
  ·rw[hm]at Q j;have HS:Xr _:=(j.o (by simp));go_wp2;go_roundg k
   ·exact⟨k,d,by omega,rfl,by go_num,E,HS,f,G⟩
   omega
  ·rw[hm]at Q j;cases hp:nP H k
   ·rw[hp]at c j;have HS:Xr _:=(j.o (by simp));go_wp2_with (go_at_call 100;refine Ts c.o ?_;rintro e wp ⟨rfl,r⟩;rw[r];clear r);go_roundg k
    ·exact⟨k,d,by omega,rfl,by go_num,E,HS,f,G⟩
    omega
   ·rw[hp]at c;have HM:Xr (lr w H k (qL d (o8 w k))=mG w H l):=by
     have:=U.o;rw[lr]at this;unfold mS at this;rw[Tr ⟨hm,hp⟩]at this;exact this
    have B:Xr _:=an.o k wr aS G.o;have a5:=al.o k;clear j U;(go_upto_region 9 with (go_at_call 100;refine Ts c.o ?_;rintro e wp ⟨rfl,r⟩;rw[r];clear r));(go_upto_region 10 with (go_at_call 138;refine Ts B.o ?_;rintro e w2 ⟨z,rfl,S⟩));have L:Xr (gW w2 b.heap.size d):=f.o.XR S.XR (by simp);have ad:Xr (ae [] b w2):=G.o.trans S.XR;have ap:Xr (aB w2 z (bD (o8 w k))):=S.X9;have Z:Xr (z.XS≠some b.heap.size):=fun e=>by have:=S.far _ e;have:=aj f.o;omega
    clear S B c Q z0;obtain⟨AO,J⟩:=bn (z.ao);rw[J.o];generalize o8 w k=g at *;go_wp2
    go_loopg [8] g.length (fun gk iv wr=>∃(m:Nat) (a:List Bool),m<=g.length/\gk=g.length-m/\iv=int i64 m/\a.length=w.length/\Xr (qL a (g.drop m)=qL d g)/\Xr (gW wr b.heap.size a)/\Xr (aB wr z (bD g))/\Xr (ae [] b wr))
    ·exact⟨0,d,by omega,rfl,rfl,E,rfl,L,ap,ad⟩
    obtain⟨m,a,hi,ba,rfl,p,HD,o,u,C⟩:=hrel;rcases kn m g.length with ⟨D,bd⟩ | ⟨D,be⟩
    ·obtain⟨gp,ep,gz,d0,dc⟩:=PP u.o D;obtain rfl:AO=some ⟨gp,0,none⟩:=J.o.symm.trans ep;clear ep;have t:Xr (qL (qj a g[m]) (g.drop (m+1))=qL d g):=by
      have:=HD.o;rw[TV D]at this;exact this
     generalize g[m]=x at *;have bk:(x:Int) ≥ 0:=by omega
     rcases kn x w.length with ⟨a0,aT⟩ | ⟨a0,aT⟩
     ·have c1:=o.o.cell x (a.getD x false) (by rw[To,Tn (by omega)];rfl);have f1:=am o.o x;have X:Xr (qj a x=a.set x true):=ci (by unfold qj;rw[Tr (by omega)]);rw[X.o]at t;have M:Xr (gW (wr.setCell ⟨b.heap.size,x,none⟩ (bool true)) b.heap.size (a.set x true)):=o.o.set x;have ag:Xr (ae [] b (wr.setCell ⟨b.heap.size,x,none⟩ (bool true))):=C.o.sr1 (Tq _) _;have ar:Xr (aB (wr.setCell ⟨b.heap.size,x,none⟩ (bool true)) z (bD g)):=u.o.XJ (fun q hq=>((ae.refl [b.heap.size] wr).sl1 _).block q (u.o.lt hq) (by simp;intro e;rw[e]at hq;exact Z.o hq));go_wp2;go_roundg (g.length-(m+1))
      ·exact⟨m+1,a.set x true,by omega,rfl,by go_num,by rw[Um];exact p,t,M,ar,ag⟩
      omega
     ·have X:Xr (qj a x=a):=(by show _=_;unfold qj;rw[Tp (by omega)]);rw[X.o]at t;go_wp2;go_roundg (g.length-(m+1))
      ·exact⟨m+1,a,by omega,rfl,by go_num,p,t,o,u,C⟩
      omega
    ·have HE:Xr (a=qL d g):=by
      have:=HD.o;rw[VJ (by omega)]at this;exact this
     have ai:Xr (lr w H k a=mG w H l):=ci (by rw[HE.o];exact HM.o);go_wp2;go_roundg k
     ·exact⟨k,a,by omega,rfl,by go_num,p,ai,o,C⟩
     omega
set_option maxRecDepth 512
theorem wf(X:Xt)(w:World)(r:aB w zt (aE X))(L:X.length<=100000) :
  Calls prog 99 #[slice zt.ao X.length zt.cap] w fun e B=>∃n:Option Nat,e=returned (slice (vm n) X.length X.length)/\qo B n X/\(∀q,n=some q->w.heap.size<=q)/\ae [] w B:=by
 obtain⟨I,A,s,j,t⟩:=TZ kg;by_cases k:X.length=0
 ·have G:X=[]:=Uf k;have p:((X.length:Int)==0)=true:=by rw[k];rfl
  clear r;go_enter func99,ntmps99;go_wp2;go_ret;exact⟨none,by rw[k];rfl,⟨⟨fun _=>G,fun _=>rfl⟩,fun b e=>by cases e⟩,(fun q e=>by cases e),ae.refl _ _⟩
 ·have p:((X.length:Int)==0)=false:=by rw[TU];omega
  have J:=fun w=>dG (P:=prog) w 61 9 I _ underlying61 A s X.length 1 j (by rw[t];omega) (by omega);obtain⟨d,a⟩:∃K,K=madeCells (string ⟨#[]⟩).cells (X.length*1):=⟨_,rfl⟩
  have C:d.size=X.length*1:=by rw[a,U7]
  rw[<-a]at J;clear a;obtain⟨W,l⟩:=bn (w.alloc (.cells d 9));have m:=fI l.o;have z:=f9 l.o;have c:(prog.info? (aE X).e).map (·.size)=some (aE X).size:=by simp[aE,A,j]
  obtain⟨y,f,g,i,v⟩:=rm (P:=prog) W 61 61 3 w.heap.size X.length zt (aE X) d 9 underlying61 c z (r.XE m) C (fun u H=>by obtain⟨x,-,rfl⟩:=UG.1 H;rfl);have F:(Builtin.copy_ #[61,61] 3 #[slice (some ⟨w.heap.size,0,none⟩) X.length X.length,slice zt.ao X.length zt.cap]).run prog W=.ok (goInt X.length) y:=f;have D:Xr (qo y (some w.heap.size) X):=⟨⟨(fun e=>by cases e),fun e=>absurd (by rw[e];rfl) k⟩,fun b e=>by cases e;exact g⟩;have E:Xr (ae [] w y):=((m.mono (S':=[w.heap.size]) (by simp)).trans i).mono (by simp);clear r m z g i v C f c;go_enter func99,ntmps99;go_upto_region 4 with fail
  rw[l.o];go_wp2;go_ret;exact⟨some w.heap.size,rfl,D.o,(fun q e=>by cases e;exact Tq _),E.o⟩
def GJ(l:List St)(L:List Rw)(a k:Nat):Xt:=((List.range k).filter (RQ l L a)).map (qi l)
def Cg(l:List St)(L:List Rw)(a k:Nat):Xt:=((List.range k).filter (RT l L a)).map (qi l)
theorem Lz:GJ w H z6 (d+1)=GJ w H z6 d++(if RQ w H z6 d=true then [qi w d] else []):=by
 unfold GJ;rw[fZ,Uh];split <;> rfl
theorem LA:Cg w H z6 (d+1)=Cg w H z6 d++(if RT w H z6 d=true then [qi w d] else []):=by
 unfold Cg;rw[fZ,Uh];split <;> rfl
def Ma(A B:Xt)(c:Int)(w:World)(e:Ending)(w':World):Prop:=∃b1 b2:Option Nat,e=returned (tuple #[slice (vm b1) A.length A.length,slice (vm b2) B.length B.length,int i64 c])/\qo w' b1 A/\qo w' b2 B/\(∀q,b1=some q->w.heap.size<=q)/\(∀q,b2=some q->w.heap.size<=q)/\(∀q,b1=some q->b2≠some q)/\ae [] w w'
section
attribute [local go_sem] vT
theorem SJ{a:Option Nat}(h:qo k a z5)(c:ae [] k m):qo m a z5:=⟨h.nil,fun b e=>c.get (h.XS b e) (by simp)⟩
structure EY(w wr:World)(gm:Nat)(ms:List Bool)(h1 h2:Hd)(A B:Xt):Prop where
 a:ip w wr h1 (aE A)
 b:ip w wr h2 (aE B)
 ap:∀k,h1.XS=some k->h2.XS≠some k
 s:gW wr gm ms
 gw:w.heap.size<=gm
 f1:h1.XS≠some gm
 f2:h2.XS≠some gm
theorem EY.XE(u:EY k m I y6 t z7 z5 y3)(c:ae [] m z4):EY k z4 I y6 t z7 z5 y3 :=
 ⟨u.a.XE c,u.b.XE c,u.ap,u.s.XR c (by simp),u.gw,u.f1,u.f2⟩
theorem EY.addA(u:EY k m I y6 t y5 z5 ya)(g:bq m z4 t z7)(o:aB z4 z7 (aE y3)):EY k z4 I y6 z7 y5 y3 ya:=by
 obtain⟨d,f,i⟩:=ip.two u.a u.b u.ap g o;have l:=aj u.s;refine⟨d,f,i,u.s.XR g.XR (fun h=>u.f1 (aQ h)),u.gw,fun e=>?_,u.f2⟩;rcases g.XS with c | ⟨q,c,j⟩
 ·exact u.f1 (by rw[<-c];exact e)
 ·rw[e]at c;cases c;omega
theorem EY.addB(u:EY k m I y6 t z7 z5 y3)(g:bq m z4 z7 y5)(o:aB z4 y5 (aE ya)):EY k z4 I y6 t y5 z5 ya:=by
 obtain⟨j,l,n⟩:=ip.two u.b u.a (fun i f d=>u.ap i d f) g o;have p:=aj u.s;refine⟨l,j,fun i f d=>n i d f,u.s.XR g.XR (fun h=>u.f2 (aQ h)),u.gw,u.f1,fun e=>?_⟩;rcases g.XS with c | ⟨q,c,d⟩
 ·exact u.f2 (by rw[<-c];exact e)
 ·rw[e]at c;cases c;omega
set_option maxRecDepth 100000
theorem KD(h:jB b i y w N T H)(ok:jV w)(ha:l<w.length)(ar:∀n (hn:n<w.length),rX w[n]) :
  Calls prog 66 #[pointer (some ⟨i,y,none⟩),int i64 l] b fun e w'=>if((eO H l==2)||(eO H l==3))=true then Ma [] [] 9 b e w' else Ma (pn w H l).1 (pn w H l).2 0 b e w':=by
 have a4:=ok.len;obtain⟨i0,hi,ac,ad,af⟩:=TZ kg;have HV:Xr _:=oo i y l w N T H b h;have aT:Xr _:=BU i y l w N T H b h ok ha ar;have HR:Xr _:=h;clear h ar;have hv:((eO H l==2)=true)∨((eO H l==2)=false/\(eO H l==3)=true)∨((eO H l==2)=false/\(eO H l==3)=false):=by
  cases (eO H l==2) <;> cases (eO H l==3) <;> simp
 obtain⟨v,Hv⟩:=bn (eO H l);rw[Hv.o]at HV hv ⊢;rcases hv with m | ⟨m,h3⟩ | ⟨m,h3⟩
 ·simp only[m,Bool.true_or,if_true];go_enter func66,ntmps66;go_wp2_with (go_at_call 96;refine Ts HV.o ?_;rintro e w1 ⟨rfl,D⟩;rw[D];clear D);go_ret3;exact⟨none,none,rfl,⟨⟨fun _=>rfl,fun _=>rfl⟩,fun i e=>by cases e⟩,⟨⟨fun _=>rfl,fun _=>rfl⟩,fun i e=>by cases e⟩,(fun q e=>by cases e),(fun q e=>by cases e),(fun q e=>by cases e),ae.refl _ _⟩
 ·simp only[h3,Bool.or_true,if_true];go_enter func66,ntmps66;go_wp2_with (go_at_call 96;refine Ts HV.o ?_;rintro e w1 ⟨rfl,D⟩;rw[D];clear D);go_ret3;exact⟨none,none,rfl,⟨⟨fun _=>rfl,fun _=>rfl⟩,fun i e=>by cases e⟩,⟨⟨fun _=>rfl,fun _=>rfl⟩,fun i e=>by cases e⟩,(fun q e=>by cases e),(fun q e=>by cases e),(fun q e=>by cases e),ae.refl _ _⟩
 ·simp only[m,h3,Bool.or_self,Bool.false_eq_true,if_false];go_enter func66,ntmps66;go_upto_region 5 with (go_at_call 96;refine Ts HV.o ?_;rintro e w1 ⟨rfl,D⟩;rw[D];clear D)
  go_upto_region 6 with (go_at_call 97;refine Ts aT.o ?_;rintro e w1 ⟨rfl,s1,S⟩)
  have aS:Xr ((mG w H l).length=w.length):=ci (by unfold mG;rw[KH,Um,Wz]);have a1:Xr (EY b w1 b.heap.size (mG w H l) ⟨none,0⟩ ⟨none,0⟩ [] []):=⟨⟨Ty _ _ _ _,(by intro k hk;cases hk),S⟩,⟨Ty _ _ _ _,(by intro k hk;cases hk),S⟩,(by intro k hk;cases hk),s1,Tq _,(by intro e;cases e),(by intro e;cases e)⟩;clear s1 S;go_wp2
  go_loopg [8,9,11] w.length (fun gk av bv nv wr=>∃(k:Nat) (F m:Hd) (A B:Xt),k<=w.length/\gk=w.length-k/\av=slice F.ao A.length F.cap/\bv=slice m.ao B.length m.cap/\nv=int i64 k/\(A.length<=k/\B.length<=k)/\Xr (A=GJ w H l k)/\Xr (B=Cg w H l k)/\Xr (EY b wr b.heap.size (mG w H l) F m A B))
  ·exact⟨0,⟨none,0⟩,⟨none,0⟩,[],[],by omega,rfl,rfl,rfl,rfl,⟨Tq _,Tq _⟩,rfl,rfl,a1⟩
  obtain⟨k,F,m,A,B,hk,a7,rfl,rfl,rfl,⟨a5,a6⟩,HA,X,R⟩:=hrel;rcases kn k w.length with ⟨V,ba⟩ | ⟨V,bc⟩
  ·have c0:=R.o.s.cell k ((mG w H l).getD k false) (by rw[To,Tn (by rw[aS.o];exact V)];rfl);have Z:Xr _:=Lz w H l k;have M:Xr _:=LA w H l k;have L:Xr (RQ w H l k=((mG w H l).getD k false&&(eO H k==1))):=rfl;have r:Xr (RT w H l k=((mG w H l).getD k false&&((eO H k==2)||(eO H k==3)))):=rfl;have Y:Xr (qi w k=w[k].XV):=ci (by unfold qi;rw[To,Tn V];rfl);cases hm:(mG w H l).getD k false
   ·rw[hm]at c0;rw[hm,Vs]at L r;have E:Xr (A=GJ w H l (k+1)):=ci (by rw[Z.o,L.o,Tp (by simp),TY];exact HA.o);have t:Xr (B=Cg w H l (k+1)):=ci (by rw[M.o,r.o,Tp (by simp),TY];exact X.o);go_wp2;go_roundg (w.length-(k+1))
    ·exact⟨k+1,F,m,A,B,by omega,rfl,rfl,rfl,by go_num,⟨by omega,by omega⟩,E,t,R⟩
    omega
   ·rw[hm]at c0;rw[hm,U6]at L r;have ai:Xr _:=bF i y k w N wr (HR.o.XE R.o.a.XR).recd V;have ap:Xr (∀wx,ae [] wr wx->Calls prog 96 #[pointer (some ⟨i,y,none⟩),int i64 k] wx fun e w'=>e=returned (int i64 (eO H k))/\w'=wx):=fun wx kx=>oo i y k w N T H wx (HR.o.XE (R.o.a.XR.trans kx));(go_upto_region 11 with (go_at_call 98;refine Ts ai.o ?_;rintro e J ⟨rfl,k5⟩;unfold fS));have U:Xr (EY b J b.heap.size (mG w H l) F m A B):=R.o.XE k5;have G:Xr _:=ap.o J k5;clear c0 k5 ai ap R;generalize w[k].XV=d at *;generalize eO H k=vk at *;cases e1:(vk==1)
    ·rw[e1]at L;have E:Xr (A=GJ w H l (k+1)):=ci (by rw[Z.o,L.o,Tp (by simp),TY];exact HA.o);cases e2:(vk==2)
     ·cases e3:(vk==3)
      ·rw[e2,e3,Bool.or_self]at r;have t:Xr (B=Cg w H l (k+1)):=ci (by rw[M.o,r.o,Tp (by simp),TY];exact X.o);go_wp2_with (go_at_call 96;refine Ts G.o ?_;rintro e K ⟨rfl,o⟩;rw[o];clear o);go_roundg (w.length-(k+1))
       ·exact⟨k+1,F,m,A,B,by omega,rfl,rfl,rfl,by go_num,⟨by omega,by omega⟩,E,t,U⟩
       omega
      ·rw[e3,Ww]at r;have t:Xr (B++[d]=Cg w H l (k+1)):=ci (by rw[M.o,r.o,Tr rfl,Y.o,<-X.o]);have x:Xr (EY b (J.alloc (.cells #[string d] 9)) b.heap.size (mG w H l) F m A B):=U.o.XE (bR.alloc _);have z:=x.o.b.X9;go_wp2_with (first | (go_at_call 96;refine Ts G.o ?_;rintro e K ⟨rfl,o⟩;rw[o];clear o) | (at_builtin;refine aL _ rfl (.tmp 54) (.tmp 56) 61 rfl i0 (string ⟨#[]⟩) 16 m (aE B) underlying61 hi ac ad af rfl TR rfl (by exact z) ⟨_,0,none⟩ 1 1 [string d] rfl rfl ?d1 ?d2 TR ?d3 ?d4 ?_))
       case d1=>intro j u I;match j,I with | 0,I=>simp at I;subst I;simp[Addr.add]
       case d2=>intro u W;simp at W;subst W;rfl
       case d3=>simp only[aE];unfold maxLen;omega
       case d4=>simp only[aE];omega
       intro P f w7 p g a;have C:(J.alloc (.cells #[string d] 9)).heap.size=J.heap.size+1:=by simp
       replace a:m.XS=some P∨(J.alloc (.cells #[string d] 9)).heap.size<=P:=(by rw[C];exact a);rw[dX B d]at p;have O:Xr _:=x.o.addB (bq.made (c:=f) g a) p;have Q:Xr ((aE B).n+1=(B++[d]).length):=ci (by simp[aE]);rw[Q.o];clear g a z p C;go_wp2;go_roundg (w.length-(k+1))
       ·exact⟨k+1,F,⟨some ⟨P,0,none⟩,f⟩,A,B++[d],by omega,rfl,rfl,rfl,by go_num,⟨by omega,by rw[Tv];show _+1<=_;omega⟩,E,t,O⟩
       omega
     ·rw[e2,Vo]at r;have t:Xr (B++[d]=Cg w H l (k+1)):=ci (by rw[M.o,r.o,Tr rfl,Y.o,<-X.o]);have x:Xr (EY b (J.alloc (.cells #[string d] 9)) b.heap.size (mG w H l) F m A B):=U.o.XE (bR.alloc _);have z:=x.o.b.X9;go_wp2_with (first | (go_at_call 96;refine Ts G.o ?_;rintro e K ⟨rfl,o⟩;rw[o];clear o) | (at_builtin;refine aL _ rfl (.tmp 54) (.tmp 56) 61 rfl i0 (string ⟨#[]⟩) 16 m (aE B) underlying61 hi ac ad af rfl TR rfl (by exact z) ⟨_,0,none⟩ 1 1 [string d] rfl rfl ?d1 ?d2 TR ?d3 ?d4 ?_))
      case d1=>intro j u I;match j,I with | 0,I=>simp at I;subst I;simp[Addr.add]
      case d2=>intro u W;simp at W;subst W;rfl
      case d3=>simp only[aE];unfold maxLen;omega
      case d4=>simp only[aE];omega
      intro P f w7 p g a;have C:(J.alloc (.cells #[string d] 9)).heap.size=J.heap.size+1:=by simp
      replace a:m.XS=some P∨(J.alloc (.cells #[string d] 9)).heap.size<=P:=(by rw[C];exact a);rw[dX B d]at p;have O:Xr _:=x.o.addB (bq.made (c:=f) g a) p;have Q:Xr ((aE B).n+1=(B++[d]).length):=ci (by simp[aE]);rw[Q.o];clear g a z p C;go_wp2;go_roundg (w.length-(k+1))
      ·exact⟨k+1,F,⟨some ⟨P,0,none⟩,f⟩,A,B++[d],by omega,rfl,rfl,rfl,by go_num,⟨by omega,by rw[Tv];show _+1<=_;omega⟩,E,t,O⟩
      omega
    ·have ev:vk=1:=(by simpa using e1);subst ev;have t:Xr (B=Cg w H l (k+1)):=ci (by rw[M.o,r.o,Tp (by decide),TY];exact X.o);have E:Xr (A++[d]=GJ w H l (k+1)):=ci (by rw[Z.o,L.o,Tr (by decide),Y.o,<-HA.o]);have x:Xr (EY b (J.alloc (.cells #[string d] 9)) b.heap.size (mG w H l) F m A B):=U.o.XE (bR.alloc _);have z:=x.o.a.X9;go_wp2_with (first | (go_at_call 96;refine Ts G.o ?_;rintro e K ⟨rfl,o⟩;rw[o];clear o) | (at_builtin;refine aL _ rfl (.tmp 47) (.tmp 49) 61 rfl i0 (string ⟨#[]⟩) 16 F (aE A) underlying61 hi ac ad af rfl TR rfl (by exact z) ⟨_,0,none⟩ 1 1 [string d] rfl rfl ?d1 ?d2 TR ?d3 ?d4 ?_))
     case d1=>intro j u I;match j,I with | 0,I=>simp at I;subst I;simp[Addr.add]
     case d2=>intro u W;simp at W;subst W;rfl
     case d3=>simp only[aE];unfold maxLen;omega
     case d4=>simp only[aE];omega
     intro P f w7 p g a;have C:(J.alloc (.cells #[string d] 9)).heap.size=J.heap.size+1:=by simp
     replace a:F.XS=some P∨(J.alloc (.cells #[string d] 9)).heap.size<=P:=(by rw[C];exact a);rw[dX A d]at p;have O:Xr _:=x.o.addA (bq.made (c:=f) g a) p;have Q:Xr ((aE A).n+1=(A++[d]).length):=ci (by simp[aE]);rw[Q.o];clear g a z p C;go_wp2;go_roundg (w.length-(k+1))
     ·exact⟨k+1,⟨some ⟨P,0,none⟩,f⟩,m,A++[d],B,by omega,rfl,rfl,rfl,by go_num,⟨by rw[Tv];show _+1<=_;omega,by omega⟩,E,t,O⟩
     omega
  ·have e:k=w.length:=(by omega);subst e;have ax:Xr (A=(pn w H l).1):=HA.o;have az:Xr (B=(pn w H l).2):=X.o;have al:Xr _:=(wf F A wr R.o.a.X9 (by omega));have an:Xr (∀K,ae [] wr K->Calls prog 99 #[slice m.ao B.length m.cap] K fun e w'=>∃bo:Option Nat,e=returned (slice (vm bo) B.length B.length)/\qo w' bo B/\(∀q,bo=some q->K.heap.size<=q)/\ae [] K w'):=fun K k6=>wf m B K (R.o.b.X9.XE k6) (by omega);have ag:Xr (ae [] b wr):=R.o.a.XR;clear R HA X;go_wp2_with (first | (go_at_call 99;refine Ts al.o ?_;rintro e K ⟨b1,rfl,x1,n1,S⟩;have a2:Xr (qo K b1 A/\(∀q,b1=some q->wr.heap.size<=q)/\ae [] wr K):=⟨x1,n1,S⟩;have a0:Xr _:=an.o K S;clear al an x1 n1 S) | (go_at_call 99;refine Ts a0.o ?_;rintro e w7 ⟨b2,rfl,x2,n2,k2⟩));go_ret3;rw[<-ax.o,<-az.o];obtain⟨x1,n1,S⟩:=a2.o;have a3:=ag.o.size;have bd:=S.size;refine⟨b1,b2,rfl,(SJ x1 k2),x2,(fun q e=>TF a3 (n1 q e)),(fun q e=>by have:=n2 q e;omega),(fun q e e2=>?_),(ag.o.trans S).trans k2⟩;have h8:=n2 q e2;have h9:=aj (x1.XS q e);omega
end
theorem nF.repAt{l:List St}{H:Nat->Hd}(h:nF k I yd l H y9):jB k I 10 l H y9 (bP l l.length) :=
 ⟨h.recd,h.tellA.cell,h.tellA.arr⟩
theorem I1(a:World)(k:ae [] b a):Ma [] [] g b (returned (tuple #[slice none 0 0,slice none 0 0,int i64 g])) a :=
 ⟨none,none,rfl,⟨⟨fun _=>rfl,fun _=>rfl⟩,fun c e=>by cases e⟩,⟨⟨fun _=>rfl,fun _=>rfl⟩,fun c e=>by cases e⟩,(fun q e=>by cases e),(fun q e=>by cases e),(fun q e=>by cases e),k⟩
theorem GN(h:kC b o S) :
  Calls prog 43 #[pointer (some ⟨o,0,none⟩),string x] b fun e a=>Ma [] [] 7 b e a:=by
 have c:Xr (Calls prog 60 #[pointer (some ⟨o,0,none⟩),string x] b fun e a=>e=returned (tuple #[int i64 0,int i64 7])/\ae [] b a):=by
  show Calls _ _ _ _ _;obtain⟨f,-⟩:=jt.cells h;clear h;go_enter func60,ntmps60;go_wp2;go_ret2;exact⟨rfl,ae.refl _ _⟩
 clear h;go_enter func43,ntmps43;go_wp2_with (go_at_call 60;refine Ts c.o ?_;rintro e g ⟨rfl,d⟩);go_ret3;exact I1 7 b _ d
def zj(l:List St)(lab:Xs):(Xt×Xt)×Int:=match li l lab with
 | none=>(([],[]),8)
 | some n=>if((eO (bP l l.length) n==2)||(eO (bP l l.length) n==3))=true then(([],[]),9) else(pn l (bP l l.length) n,0)
def uP(fs:Fs)(st:Option Nat)(lab:Xs):(Xt×Xt)×Int:=match st with
 | none=>(([],[]),7)
 | some k=>zj (bE fs k).2.2.XQ lab
theorem Ma.base{c:Int}{e:Ending}(h:Ma z5 y3 c m e z4)(a:ae [] k m):Ma z5 y3 c k e z4:=by
 obtain⟨b,d,f,g,i,j,l,n,o⟩:=h;have:=a.size;exact⟨b,d,f,g,i,(fun q e=>by have:=j q e;omega),(fun q e=>by have:=l q e;omega),n,a.trans o⟩
theorem LG(h:nF b o S w N T)(v:jV w)(g:∀n (u:n<w.length),rX w[n]) :
  Calls prog 43 #[pointer (some ⟨o,0,none⟩),string x] b fun e k=>Ma (zj w x).1.1 (zj w x).1.2 (zj w x).2 b e k:=by
 have t:=v.len;have i:=LE o S w N T x b h (by omega);have s:=bO.lt (WA (WA (WA h.ver)));unfold zj;cases p:li w x with
 | none =>
  rw[p]at i;have f:Xr _:=i;clear i h g;go_enter func43,ntmps43;go_wp2_with (go_at_call 60;refine Ts f.o ?_;rintro e a ⟨rfl,d⟩);go_ret3;exact I1 8 b _ d
 | some n =>
  rw[p]at i;obtain⟨u,J,-⟩:=C1 p;have f:Xr _:=i;have j:Xr (∀a,ae [] b a->Calls prog 66 #[pointer (some ⟨o,10,none⟩),int i64 n] a fun e k=>Ma (if((eO (bP w w.length) n==2)||(eO (bP w w.length) n==3))=true then((([],[]),9):(Xt×Xt)×Int) else(pn w (bP w w.length) n,0)).1.1 (if((eO (bP w w.length) n==2)||(eO (bP w w.length) n==3))=true then((([],[]),9):(Xt×Xt)×Int) else(pn w (bP w w.length) n,0)).1.2 (if((eO (bP w w.length) n==2)||(eO (bP w w.length) n==3))=true then((([],[]),9):(Xt×Xt)×Int) else(pn w (bP w w.length) n,0)).2 a e k):=fun a d=>by
   refine(KD o 10 n w N T (bP w w.length) a (h.XE d).repAt v u g).mono (fun e k q=>?_);split at q
   ·next r=>rw[Tr r];exact q
   ·next r=>rw[Tp r];exact q
  have y:Xr (∀a,ae [] b a->o<a.heap.size):=fun a d=>Tw s d.size;clear i h g;simp only;generalize (if((eO (bP w w.length) n==2)||(eO (bP w w.length) n==3))=true then((([],[]),9):(Xt×Xt)×Int) else(pn w (bP w w.length) n,0))=R at *;obtain⟨⟨A,B⟩,c⟩:=R;simp only at j ⊢;go_enter func43,ntmps43;go_upto_region 4 with (go_at_call 60;refine Ts f.o ?_;rintro e a ⟨rfl,d⟩)
  have m:Xr _:=j.o a d;have l:Xr _:=d;clear d;go_wp2_with (go_at_call 66;refine Ts m.o ?_;rintro e K ⟨z,C,rfl,D,E,F,G,H,I⟩);go_ret3;exact Ma.base ⟨z,C,rfl,D,E,F,G,H,I⟩ l.o
theorem NH(d:ew b o S l T z3)(a:∀j,j<S.length->(ak S j).size<=1024) :
  Calls prog 43 #[pointer (some ⟨o,0,none⟩),string x] b fun e f=>Ma (uP S z3 x).1.1 (uP S z3 x).1.2 (uP S z3 x).2 b e f:=by
 have c:=d.s;cases z3 with
 | none=>exact GN o S x b c
 | some k =>
  obtain⟨-,H,g,r,-⟩:=c;exact LG o S _ H g x b r (uq S a k).ok (uq S a k).prf
def QS(A B:Xt)(c:Int)(w:World)(e:Ending)(w':World):Prop:=∃h1 h2:Hd,e=returned (tuple #[slice h1.ao A.length h1.cap,slice h2.ao B.length h2.cap,int i64 c])/\ip w w' h1 (aE A)/\ip w w' h2 (aE B)
theorem IZ:QS [] [] g b (returned (tuple #[slice none 0 0,slice none 0 0,int i64 g])) b :=
 ⟨⟨none,0⟩,⟨none,0⟩,rfl,IG b [] rfl,IG b [] rfl⟩
theorem EB(c:Int)(g:(c != 0)=true)(w:World)(d:Calls prog 62 #[pointer (some ⟨T,0,none⟩),string x] w fun e b=>e=returned (tuple #[int i64 0,int i64 c])/\b=w) :
  Calls prog 44 #[pointer (some ⟨T,0,none⟩),string x] w fun e b=>QS [] [] c w e b:=by
 have f:Xr _:=d;clear d;go_enter func44,ntmps44;go_wp2_with (go_at_call 62;refine Ts f.o ?_;rintro e i ⟨rfl,a⟩;rw[a];clear a);go_ret3;exact IZ c w
set_option maxRecDepth 100000
theorem Ox(s:List Tk)(v:Xu)(Y:Nat)(S:List Sm)(u:Xu)(X:Nat)(V W:Value)(m:List (jP×Hd))(n:Xu)(J:Nat)(c:List iq)(g:Xu)(E:Nat)(w:World)(hD:gy w l s v Y S u X)(B:OH w y l V W m n J c g E)(M:T<m.length)(p:T<c.length)(N:T<S.length)(ha:T<=10000)(A:∀j,j<=T->(aq S j).a<s.length)(C:∀t,t<=T->(hQ m t).1.st.length<=100000000/\∀i,i<(hQ m t).1.st.length->(bN (hQ m t).1.st i).ref<=(T:Int))(hA:Calls prog 62 #[pointer (some ⟨y,0,none⟩),string x] w fun e F=>e=returned (tuple #[int i64 T,int i64 0])/\F=w) :
  Calls prog 44 #[pointer (some ⟨y,0,none⟩),string x] w fun e F=>if(!(cM c T) && !((dW c T).XF==1))=true then QS [] [] 9 w e F else ∃b:List Bool,(∀k,b.getD k false=true ↔ eJ m c T k)/\QS (Jm s S b (T+1)) (Cq s S c b (T+1)) 0 w e F:=by
 have G:Xr _:=hA;have f:Xr _:=Au y l T V W m n J c g E w B p;have q:Xr _:=v7 y l T s v Y S u X V W m n J c g E w hD B M p N ha A C;obtain⟨gr,z,ad,Z⟩:=B.r T _ (wT c T p);have c1:w.cell? ⟨gr,T*6+1,none⟩=some (int i64 (dW c T).XF):=Z 1 _ rfl;have d4:w.cell? ⟨y,4,none⟩=some (slice g c.length E):=by rw[ah B.d];rfl
 rw[z]at d4;have ac:(T:Int)<c.length:=by omega
 clear hA hD B A C Z z;obtain⟨sd,H⟩:=bn (cM c T);obtain⟨U,I⟩:=bn ((dW c T).XF);rw[H.o]at f ⊢;rw[I.o]at c1 ⊢;cases sd
 ·cases hv:(U==1)
  ·have O:(U != 1)=true:=(by simp[bne,hv]);simp only[Bool.not_false,Bool.and_self,if_true];go_enter func44,ntmps44;go_wp2_with (first | (go_at_call 62;refine Ts G.o ?_;rintro e D ⟨rfl,a⟩;rw[a];clear a) | (go_at_call 67;refine Ts f.o ?_;rintro e D ⟨rfl,a⟩;rw[a];clear a));go_ret3;exact IZ 9 w
  ·have O:(U != 1)=false:=(by simp[bne,hv]);simp only[Bool.not_false,Bool.not_true,Bool.and_false,Bool.false_eq_true,if_false];go_enter func44,ntmps44;(go_upto_region 7 with (first | (go_at_call 62;refine Ts G.o ?_;rintro e D ⟨rfl,a⟩;rw[a];clear a) | (go_at_call 67;refine Ts f.o ?_;rintro e D ⟨rfl,a⟩;rw[a];clear a)));go_wp2_with (go_at_call 68;refine Ts q.o ?_;rintro e w2 ⟨b,K,L,P,rfl,Q,R⟩);go_ret3;exact⟨b,P,K,L,rfl,Q,R⟩
 ·simp only[Bool.not_true,Bool.false_and,Bool.false_eq_true,if_false];go_enter func44,ntmps44;go_upto_region 7 with (first | (go_at_call 62;refine Ts G.o ?_;rintro e D ⟨rfl,a⟩;rw[a];clear a) | (go_at_call 67;refine Ts f.o ?_;rintro e D ⟨rfl,a⟩;rw[a];clear a))
  go_wp2_with (go_at_call 68;refine Ts q.o ?_;rintro e w2 ⟨b,K,L,P,rfl,Q,R⟩);go_ret3;exact⟨b,P,K,L,rfl,Q,R⟩
theorem EV.rf{T:List Tk}{f b:Nat}{m:Xu}{o:Nat}{l:Xu}{n:Nat}{d:List (jP×Hd)}{j:List iq}(r:EV k I yd t T y9 f b m o l n d z7 j y5)(v:T.length<=10000)(u:fw T){a c:Nat}(w:c<=a)(g:c<(aa T).length):(hQ d c).1.st.length<=100000000/\∀i,i<(hQ d c).1.st.length->(bN (hQ d c).1.st i).ref<=(a:Int):=by
 have B:(aa T).length<=T.length:=pK _ _;have p:(hQ d c).1=nO (aa T) (DJ T (aa T)) c:=by
  have:(d.map (·.1))[c]?=((List.range (aa T).length).map (nO (aa T) (DJ T (aa T))))[c]?:=by rw[r.ps]
  rw[Ua,Ua,Vg g]at this;unfold hQ;rw[To];cases e:d[c]? with
  | none=>rw[e]at this;cases this
  | some x=>rw[e]at this;exact UQ this
 rw[p];unfold nO;split
 ·obtain⟨P,D⟩:=(dO T).s c g;obtain⟨y,-,A⟩:=sJ (T:=T) (S:=aa T) (a:=c) (by omega) u v (zl T (aa T) c) ((aq (aa T) c).z-1) (by omega);refine⟨A,fun i f=>?_⟩;rcases(y i f).XP with e | ⟨e,-⟩ | ⟨q,⟨C,-⟩,e,-⟩
  all_goals
   show(bN (fC T (aa T) c _ _).st i).ref<=_
   rw[e];omega
 ·exact⟨by show(0:Nat)<=_;omega,fun i f=>by cases f⟩
theorem MG(hm:dM b o S zt l T z3)(N:∀k,z3=some k->k<S.length/\((gj S k).1==0)=true)(M:S.length<=4)(Q:∀j,j<S.length->(ak S j).size<=1024) :
  Calls prog 44 #[pointer (some ⟨o,0,none⟩),string x] b fun e A=>QS (uP S z3 x).1.1 (uP S z3 x).1.2 (uP S z3 x).2 b e A:=by
 have X:=hm.s;cases z3 with
 | none =>
  obtain⟨p2,p3,p4,r⟩:=X;exact EB o x 7 (by decide) b (Mh o x _ p2 p3 p4 b r.d)
 | some k =>
  obtain⟨hk,h0⟩:=N k rfl;obtain⟨G,W,hO⟩:=Ip M Q hk h0;obtain⟨V,Z,cT,Y,cS,I,H,w,y,r⟩:=X;have J:=r.XY.tell;have C:=aB.srcG (f:=lg) r.s2 (fun _=>rfl);have hl:(aa (cN S k).1).length<=(cN S k).1.length:=pK _ _;have c:=G.r.find J x;have B:=Mg o x w y.ao y.cap _ _ _ b r.rv.d C (by rw[J.len];omega);show Calls _ _ _ _ fun e A=>QS (zj (bE S k).2.2.XQ x).1.1 (zj (bE S k).2.2.XQ x).1.2 (zj (bE S k).2.2.XQ x).2 b e A;unfold zj;cases K:li (bE S k).2.2.XQ x with
  | none =>
   rw[K]at c;refine EB o x 8 (by decide) b (B.mono (fun e A q=>?_));obtain⟨v,z⟩:=q;rw[c]at v;exact⟨v,z⟩
  | some n =>
   rw[K]at c;obtain⟨g,hA,-⟩:=C1 K;have D:=G.r.hel.at_ g;have ac:I.length=(aa (cN S k).1).length:=by
    have:=congrArg List.length r.ps;rw[TT,TT,U8]at this;exact this
   have hJ:OH b o V (slice zt.ao S.length zt.cap) (bool true) I H.ao H.cap w y.ao y.cap:=⟨r.rv.d,aB.srcG (f:=OI) r.s1 (fun _=>rfl),r.sq,C⟩;refine(Ox o V (aw (aa (cN S k).1) n) x _ Z cT _ Y cS _ _ I H.ao H.cap w y.ao y.cap b r.db hJ (by omega) (by rw[J.len];exact D) D (by omega) (fun j hj=>(OE _ W G.u _ (Tq _)).ok.a j (by omega)) (fun t ht=>r.rf W hO ht (by omega)) (B.mono (fun e A q=>?_))).mono (fun e A q=>?_)
   ·obtain⟨v,z⟩:=q;rw[c]at v;exact⟨v,z⟩
   ·have F:=G.r.rows G.f G.u G.p r.ps r.XY n g;obtain⟨s,m,-⟩:=G.r.get g;obtain⟨O,-⟩:=G.r.rea G.f G.u G.p r.ps r.XY g;have P:=O n g;have R:(dW w (aw (aa (cN S k).1) n)).XF=(fj (bE S k).2.2.XQ n).XF:=(by rw[F];rfl);have U:=tu (bE S k).2.2.XQ g;have i:(!(cM w (aw (aa (cN S k).1) n)) && !((dW w (aw (aa (cN S k).1) n)).XF==1))=((eO (bP (bE S k).2.2.XQ (bE S k).2.2.XQ.length) n==2)||(eO (bP (bE S k).2.2.XQ (bE S k).2.2.XQ.length) n==3)):=by
     obtain⟨-,k1,k2⟩:=ux m;have E:oB s.XU=true:=by
      have:(bE S k).2.2.XQ[n]=s:=(by rw[Tn g]at m;exact UQ m);rw[<-this];exact hA
     rw[<-P];unfold nP;rw[U,R,k2,k1];have:s.XU=4∨s.XU=5:=by
      unfold oB at E;simpa using E
     rcases this with e | e <;> rw[e] <;> simp
    simp only;rw[<-i];split at q
    ·next L=>rw[Tr L];exact q
    ·next L =>
     rw[Tp L];obtain⟨ad,v,z⟩:=q;obtain⟨u1,u2⟩:=G.r.uses G.f G.u G.p r.ps r.XY g v;rw[u1,u2]at z;exact z
theorem ov.move(s:ov k y7)(c g:Nat×Nat)(m:It)(e:y7 c=m):ov k (ee (ee y7 c Sy) g m):=by
 have l:∀q b,q≠g->b∈(ee (ee y7 c Sy) g m q).B->q≠c/\b∈(y7 q).B:=fun q b h a=>by
  rw[Tl _ _ h]at a;by_cases f:q=c
  ·rw[f,bA]at a;cases a
  ·rw[Tl _ _ f]at a;exact⟨f,a⟩
 refine⟨fun q=>?_,fun q i o b a d=>?_⟩
 ·by_cases h:q=g
  ·rw[h,bA,<-e];exact s.all c
  ·rw[Tl _ _ h];by_cases d:q=c
   ·rw[d,bA];exact trivial
   ·rw[Tl _ _ d];exact s.all q
 ·by_cases h:q=g
  ·obtain⟨f,j⟩:=l i b (fun x=>o (h.trans x.symm)) d;rw[h,bA,<-e]at a;exact s.far c i (Ne.symm f) b a j
  ·obtain⟨p,j⟩:=l q b h a;by_cases n:i=g
   ·rw[n,bA,<-e]at d;exact s.far q c p b j d
   ·obtain⟨f,r⟩:=l i b n d;exact s.far q i o b j r
theorem cJ.lay2{M:Mc}{c:List Tx}(h:cJ k I y7 M t c y9)(a b:It)(n:ae [] k m)(o:a.P m)(p:b.P m)(f:∀q,q∈a.B->k.heap.size<=q)(g:∀q,q∈b.B->k.heap.size<=q)(l:∀q,q∈a.B->q∉b.B):cJ m I (ee (ee y7 (12,c.length) a) (17,0) b) M t c y9 :=
 h.re (h.m.sep.put2 (12,c.length) (17,0) (bm (by decide)) a b (n.mono (by simp)) o p (fun q d=>TE (f q d)) (fun q d=>TE (g q d)) l) (fun j i r=>by rw[Tl _ _ (bm (by omega)),Tl _ _ (fun e=>by cases e;omega)])
theorem Md(a:AL S):(uP S z3 x).1.1.length<=900000000/\(uP S z3 x).1.2.length<=900000000:=by
 unfold uP;cases z3 with
 | none=>exact⟨Uc _,Uc _⟩
 | some k =>
  have d:=(uq S a k).ok.len;unfold zj;simp only;cases li (bE S k).2.2.XQ x with
  | none=>exact⟨Uc _,Uc _⟩
  | some n =>
   simp only;split
   ·exact⟨Uc _,Uc _⟩
   ·simp only[pn,List.length_map];have b:=U3 (RQ (bE S k).2.2.XQ (bP (bE S k).2.2.XQ (bE S k).2.2.XQ.length) n) (List.range (bE S k).2.2.XQ.length);have c:=U3 (RT (bE S k).2.2.XQ (bP (bE S k).2.2.XQ (bE S k).2.2.XQ.length) n) (List.range (bE S k).2.2.XQ.length);rw[U8]at b c;exact⟨by omega,by omega⟩
theorem EA(n:Fs)(hd:Hd)(lo hi K H:Nat)(r:Option Nat)(b:Xs)(w:World)(h:cJ w D L v y4 s M)(hN:M<=1073741825)(hn:s.length+2<=3*M)(V:oM w L v T z6 d n hd lo hi K H r) :
  Calls prog 20 #[pointer (some ⟨D,0,none⟩),pointer (some ⟨z6,0,none⟩),pointer (some ⟨d,0,none⟩),string b] w fun e w'=>Cz D L v (s.length+2) M e w':=by
 have F:Xr _:=NH z6 n lo hi r b w V.p V.ok;have E:Xr (∀u,ae [] w u->Calls prog 44 #[pointer (some ⟨d,0,none⟩),string b] u fun e w'=>QS (uP n r b).1.1 (uP n r b).1.2 (uP n r b).2 u e w'):=fun u k=>MG d n hd K H r b u (V.d.XE k) V.st V.le V.ok;have t:Xr _:=Md n r b V.ok;have HM:Xr (cJ w D L v y4 s M):=h;generalize uP n r b=R at *;obtain⟨⟨A,B⟩,c⟩:=R;simp only at F E t;clear h V;go_enter func20,ntmps20;go_upto_region 2 with (go_at_call 43;refine Ts F.o ?_;rintro e w1 ⟨l,f,rfl,x1,x2,n1,n2,n3,k1⟩)
 have U:Xr _:=k1;have C:Xr _:=(HM.o.lay2 (vg l A) (vg f B) k1 x1 x2 (fun q J=>n1 q (wM J)) (fun q J=>n2 q (wM J)) (fun q N g=>n3 q (wM N) (wM g)));clear x1 x2 n1 n2 n3 k1;go_upto_region 3 with (go_at_call 44;refine Ts (E.o w1 U.o) ?_;rintro e u ⟨N,g,rfl,y1,Q⟩)
 have X:Xr _:=(C.o.lay (b9 g (aE B)) (a:=18) (c:=0) (TE (by decide)) Q.XR Q.X9 (fun q J=>Q.far q (aQ J)));have x:Xr (ee (ee (ee L (12,s.length) (vg l A)) (17,0) (vg f B)) (18,0) (b9 g (aE B)) (12,s.length)=vg l A):=ci (by rw[Tl _ _ (bm (by decide)),Tl _ _ (bm (by decide)),bA]);have y:Xr (ee (ee (ee L (12,s.length) (vg l A)) (17,0) (vg f B)) (18,0) (b9 g (aE B)) (17,0)=vg f B):=ci (by rw[Tl _ _ (bm (by decide)),bA]);have z:Xr (ee (ee (ee L (12,s.length) (vg l A)) (17,0) (vg f B)) (18,0) (b9 g (aE B)) (18,0)=b9 g (aE B)):=bA _ _ _;have S:Xr (∀j T,(0<j/\j<=10)∨(14<=j/\j<=16)->ee (ee (ee L (12,s.length) (vg l A)) (17,0) (vg f B)) (18,0) (b9 g (aE B)) (j,T)=L (j,T)):=fun j T I=>by rw[Tl _ _ (bm (by omega)),Tl _ _ (bm (by omega)),Tl _ _ (bm (by omega))]
 generalize ee (ee (ee L (12,s.length) (vg l A)) (17,0) (vg f B)) (18,0) (b9 g (aE B))=I2 at *;have W:Xr _:=(zY D M I2 v y4 s l N A u X.o hN (by omega) x.o y1.X9 t.o.1);clear y1 Q C;obtain⟨rb,G⟩:=bn (vm f);rw[G.o];generalize vm l=ra at *;obtain⟨al,an⟩:=N;obtain⟨ad,af⟩:=g;go_upto_region 4 with (go_at_call 42;refine Ts W.o ?_;rintro e w3 ⟨rfl,I3,v3,ag,i,O,q2,P⟩)
 have m:Xr _:=(zY D M _ _ ag i f ⟨ad,af⟩ B w3 (O.re (O.m.sep.move (17,0) (12,i.length) (vg f B) ((P 17 0 (TE (by decide))).trans y.o)) (fun j T I=>by rw[Tl _ _ (fun e=>by cases e;omega),Tl _ _ (bm (by omega))])) hN (by omega) (bA _ _ _) (by have:=O.m.sep.all (18,0);rw[P 18 0 (TE (by decide)),z.o]at this;exact this) t.o.2);rw[G.o]at m;have Y:Xr (i.length+1=s.length+2):=ci (by omega);have Z:Xr (∀j T,(0<j/\j<=10)∨(14<=j/\j<=16)->ee (ee I3 (17,0) Sy) (12,i.length) (vg f B) (j,T)=L (j,T)):=fun j T I=>by rw[Tl _ _ (bm (by omega)),Tl _ _ (bm (by omega)),P j T (by omega)];exact S.o j T I
 clear O q2 P;go_wp2_with (go_at_call 42;refine Ts m.o ?_;rintro e w4 ⟨rfl,I4,v4,ai,ac,r1,r2,r3⟩);go_ret;exact⟨rfl,I4,v4,ai,ac,r1,r2.trans Y.o,fun j T I=>(r3 j T (by omega)).trans (Z.o j T I)⟩
theorem OT(a:Xs)(w:World)(Q:World->Prop)(c:Calls prog 20 #[pointer (some ⟨y,0,none⟩),pointer (some ⟨l,0,none⟩),pointer (some ⟨T,0,none⟩),string x] w fun e b=>e=returned (bool true)/\Q b) :
  Calls prog 24 #[pointer (some ⟨y,0,none⟩),pointer (some ⟨l,0,none⟩),pointer (some ⟨T,0,none⟩),string x,string a,int i64 13] w fun e b=>e=returned (bool true)/\Q b:=by
 have d:Xr _:=c;clear c;go_enter func24,ntmps24;go_wp2_with (go_at_call 20;refine Ts d.o ?_;rintro e g ⟨rfl,f⟩);go_ret;exact⟨rfl,f⟩
theorem RC(C d:Int)(c t:Xs)(w:World)(h:cJ w D L v y4 s M)(hV:v.V.length≠0)(hA:rj g)(hN:M<=1073741824) :
  Calls prog 10 #[pointer (some ⟨D,0,none⟩),agg #[int i64 13,int i64 g,int i64 C,int i64 d,string c,string t]] w fun e j=>pZ D L M e j:=by
 obtain⟨W,Q⟩:=bn (w.alloc (.cells #[int i64 13,int i64 g,int i64 C,int i64 d,string c,string t] 28));obtain⟨K,J,af,y⟩:=h.m.boxed 13 g C d c t W Q.o;have HT:Xr (cJ W D L v y4 s M):=h.XE y;obtain⟨z,A,T,U,X,Y,B⟩:=dw J;have Z:Xr _:=(lW D M L v 13 g C d c t W K (by omega));have HS:Xr (ir W D w.heap.size L v M 13 g C d c t):=⟨K,J⟩;have ad:=h.m.len.1;have l:Xr (∀F,Calls prog 13 #[int i64 g,int i64 v.V.length] F fun e j=>e=returned (int i64 (fy g v.V.length:Nat))/\j=F):=fun F=>fG g v.V.length F hA ⟨by omega,by omega⟩;have u:=hZ g v.V.length (by omega);obtain⟨i,Hi⟩:=bn (fy g v.V.length);rw[Hi.o]at l u;have ac:((v.V.length:Int)==0)=false:=TU.2 (by omega);have ag:(i:Int)<(v.V.length:Int):=by omega
 clear h K J y;go_enter func10,ntmps10;go_upto_region 1 with fail
 rw[Q.o];go_upto_region 2 with (go_at_call 12;refine Ts Z.o ?_;rintro e E ⟨rfl,O⟩)
 have a:Xr (ir E D w.heap.size L v M 13 g C d c t):=HS.o.XE O;have H:Xr (cJ E D L v y4 s M):=HT.o.XE O;clear z A T U X Y B O;obtain⟨z,A,-⟩:=dw a.o.o;have B:=aj a.o.o;have I:E.cell? ⟨D,0,none⟩=some (slice v.hx.ao v.V.length v.hx.cap):=by rw[ah a.o.m.XS];rfl
 go_upto_region 4 with fail
 go_quiet ((go_at_call 13;exact T0 (l.o _)));go_upto_region 5 with fail
 obtain⟨k,f⟩:=bn (E.drewN nq);rw[f.o];have b:Xr (ir k D w.heap.size L v M 13 g C d c t):=a.o.XE (by rw[<-f.o];exact bR.drewN nq);have p:Xr (cJ k D L v y4 s M):=H.o.XE (by rw[<-f.o];exact bR.drewN nq);clear z A B I;obtain⟨z,A,T,U,X,Y,B⟩:=dw b.o.o;obtain⟨x,m,fs,hd,lo,hi,P,N,st,g1,g2,r,⟨R,z1,d1⟩,S,z2,d2⟩:=b.o.m.ver u;have I:k.cell? ⟨D,0,none⟩=some (slice v.hx.ao v.V.length v.hx.cap):=by rw[ah b.o.m.XS];rfl
 have c1:k.cell? ⟨D,1,none⟩=some (slice v.hm.ao v.V.length v.hm.cap):=by rw[ah b.o.m.XS];rfl
 rw[R]at I;rw[S]at c1;have G:Xr (Calls prog 20 #[pointer (some ⟨D,0,none⟩),pointer (some ⟨x,0,none⟩),pointer (some ⟨m,0,none⟩),string c] k fun e j=>pZ D L M e j):=(EA D (M+1) L v y4 s i x m fs hd lo hi P N st c k p.o.more (by omega) (by have:=p.o.t.n;omega) r).mono (fun e j q=>Cz.ms q);clear r R S;go_wp2_with (go_at_call 20;refine Ts G.o ?_;rintro e w3 ⟨rfl,q1⟩);go_ret;exact⟨rfl,q1⟩
theorem Qo:xd (XT 13):=by
 rintro b N I M j c ⟨k,A,C,D,s,t⟩ w h p F H r;obtain⟨u,B,v,O,G,L⟩:=F;rcases H with e | ⟨e,d⟩
 ·replace e:k=13:=e;subst e;exact RC b N I M j c A C D s t w h r u p
 ·replace e:k=19:=e;replace d:D=13:=d;subst e d;exact RG b N I M j c A C 13 s t w h r u B p (fun i x m z v J E l g K a y o f=>OT b x m a s y _ ((EA b (N+1) I M j c i x m z v J E l g K a y o.more (by omega) (by have:=o.t.n;omega) f).mono (fun e P q=>Cz.ms q)))
theorem FM(f:Xu)(a:Nat)(l:List nE)(w:World)(j:l.length*64<=140737488351232)(i:mV w f l)(k:∀o∈l,zf o) :
  Calls prog 4 #[slice f l.length a] w fun e s=>e=returned (bool true)/\ae [] w s:=by
 have c:Xr _:=Nx f a 13 l w j i;have m:Xr _:=k;clear i k;go_enter func4,ntmps4;go_upto_region 2 with (go_at_call 7;refine Ts c.o ?_;rintro e t ⟨n,rfl,g⟩)
 have b:Xr _:=g.XR;have d:Xr _:=(Rs 13 ⟨by decide,by decide⟩ Qo (by decide) j m.o g);clear g;obtain⟨p,q⟩:=n;go_wp2_with (go_at_call 6;refine Ts d.o ?_;rintro e u ⟨rfl,r⟩);go_ret;exact⟨rfl,(b.o.alloc _).trans r⟩
end Go.Proofs.YtnbhnocdhbcbcaaGreat
