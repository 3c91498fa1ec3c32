import Derived.OwnWalk
import Derived.Test.YtnbhnocdhbcbcaaGreatK32
import Derived.Test.YtnbhnocdhbcbcaaGreatK35
namespace Go.Proofs.YtnbhnocdhbcbcaaGreat
open Go.RowKit Tryz
open Value IntKind Ending
set_option maxHeartbeats 0
variable{k m z4:World}{t z7 y5:Hd}{I y9:Nat}{z5 y3 ya:Xt}{y6:List Bool}{yd:Fs}{y7:Nat×Nat->It}(D M:Nat)(L:Nat×Nat->It)(v:Mc)(y4:Hd)(s:List Tx)(g:Int)(o:Nat)(S:Fs)(zt:Hd)(i y l:Nat)(w:List St)(N:Nat->Hd)(T:Nat)(z3:Option Nat)(x:Xs)(H:List Rw)(z6:Nat)(y0:List kC)(d:Nat)(b:World)
theorem Bq(h:jA b i y w N T H) :
  Calls prog 100 #[pointer (some ⟨i,y,none⟩),int i64 l] b fun e g=>e=returned (bool (nO H l))/\g=b:=by
 have d:Xr _:=om i y l w N T H b h;have c:Xr (nO H l=((eN H l==4)||(eN H l==5))):=rfl;clear h;generalize eN H l=v at *;cases f:(v==4)
 ·rw[f,UM]at c;go_enter func100,ntmps100;go_wp2_with (go_at_call 96;refine Tr d.o ?_;rintro e j ⟨rfl,a⟩;rw[a]);go_ret;exact⟨aF c.o.symm,rfl⟩
 ·rw[f,Vn]at c;go_enter func100,ntmps100;go_wp2_with (go_at_call 96;refine Tr d.o ?_;rintro e j ⟨rfl,a⟩;rw[a]);go_ret;exact⟨aF c.o.symm,rfl⟩
theorem Nr(c:Pl)(b:List (Xs×Pl)):∀a,((dM w d c b a).2.1==0)=false->(dM w d c b a).1=[]:=by
 induction b with
 | nil =>
  intro a;rw[dM];split
  ·intro _;rfl
  ·intro h;cases h
 | cons x r e =>
  intro a;obtain⟨t,p⟩:=x;rw[dM];split
  ·exact e _
  ·split
   ·intro _;rfl
   ·exact e _
theorem PY(s:St):((dB w d s).2.1==0)=false->(dB w d s).1=[]:=by
 unfold dB;split
 ·unfold kO mY;split
  ·split
   ·split
    ·intro _;rfl
    ·intro h;cases h
   ·intro _;rfl
  ·intro _;rfl
 ·exact Nr _ _ _ _ _
def vX(steps:List kC)(k:Nat):Xv:=(steps.take k).filterMap pH
theorem Kd(h:d<y0.length)(a:(y0[d].XS==2)=true):vX y0 (d+1)=vX y0 d++[y0[d].Xz]:=by
 unfold vX;rw[Uo h,Vw];congr 1;rw[WQ,List.filterMap_nil];unfold pH;rw[Tq a]
theorem Nm(h:d<y0.length)(a:(y0[d].XS==2)=false):vX y0 (d+1)=vX y0 d:=by
 unfold vX;rw[Uo h,Vw,WQ,List.filterMap_nil];unfold pH;rw[To (by rw[a];simp),TV]
set_option maxRecDepth 100000
theorem Ke(h:jA b i y w N T H)(ok:jU w)(hn:l<w.length)(D:rW w[l]) :
  Calls prog 138 #[pointer (some ⟨i,y,none⟩),int i64 l] b fun e w'=>∃g:Hd,e=returned (slice g.ao (oZ w l).length g.cap)/\io b w' g (bD (oZ w l)):=by
 obtain⟨i0,hi,an,ap,ar⟩:=TY xN;have M:Xr _:=Af i y l w N b h.recd hn ok D;have ai:=(F0 w l ok hn D).len;have HB:Xr _:=PY w l w[l];have V:Xr (oZ w l=(dB w l w[l]).1.filterMap pH):=cg (by unfold oZ;rw[Tm hn]);clear h D;generalize dB w l w[l]=PF at *;obtain⟨a,F,pp⟩:=PF;simp only at M ai HB V;go_enter func138,ntmps138;go_upto_region 3 with (go_at_call 101;refine Tr M.o ?_;rintro e w3 ⟨g,rfl,B,ax,k3⟩;unfold iu)
 obtain⟨E,s⟩:∃E,E=w3.alloc (.cells #[int i64 F,string pp.XY,int i64 pp.XZ,int i64 pp.X0] 165):=⟨_,rfl⟩
 have k4:ae [] b E:=by rw[s];exact k3.alloc _
 have B9:E.heap[w3.heap.size]?=some (.cells (Da (F,pp)) 165):=by rw[s];exact Ts _ _
 have r:aB E g (gq a):=by rw[s];exact B.XI (fun x m=>(kr0.alloc _).block x (B.lt m) (by simp))
 rw[<-s];clear s B k3;have f0:E.cell? ⟨w3.heap.size,0,none⟩=some (int i64 F):=by rw[ah B9];rfl
 have J:Xr _:=k4;obtain⟨AO,G⟩:=bn (g.ao);rw[G.o];cases hz:(F==0)
 ·have I:Xr _:=HB.o hz;have al:(F != 0)=true:=by simp[bne,hz]
  go_wp2;go_ret;refine⟨⟨none,0⟩,?_,?_⟩
  ·rw[V.o,I.o];rfl
  ·rw[V.o,I.o];exact⟨Tw _ _ _ _,(by intro k hk;cases hk),J.o⟩
 ·have al:(F != 0)=false:=by simp[bne,hz]
  have ac:Xr _:=r;clear r HB k4;go_wp2
  go_loopg [5,8] a.length (fun gk sv a2 wr=>∃(k:Nat) (p:Hd) (d:Xv),k<=a.length/\gk=a.length-k/\sv=slice p.ao d.length p.cap/\a2=int i64 k/\d.length<=k/\Xr (d=vX a k)/\Xr (aB wr p (bD d))/\Xr (∀x,p.XR=some x->b.heap.size<=x)/\Xr (ae [] b wr)/\Xr (aB wr g (gq a))/\Xr (∀x,p.XR=some x->g.XR≠some x))
  ·exact⟨0,⟨none,0⟩,[],by omega,rfl,rfl,rfl,Tp _,rfl,Tw _ _ _ _,(by intro x m;cases m),J,ac,(by intro x m;cases m)⟩
  obtain⟨k,p,d,hk,aT,rfl,rfl,az,HA,W,U,HK,X,A⟩:=hrel;rcases kn k a.length with ⟨v,a0⟩ | ⟨v,a1⟩
  ·obtain⟨gp,ep,av,ad,d0,d1,-⟩:=X.o.step k v;obtain rfl:AO=some ⟨gp,0,none⟩:=G.o.symm.trans ep;clear ep;have HY:Xr _:=Kd a k v;have HX:Xr _:=Nm a k v;generalize a[k]=o at *;cases hb:(o.XS==2)
   ·have HT:Xr _:=HX.o hb;clear HX HY;go_wp2;go_roundg (a.length-(k+1))
    ·exact⟨k+1,p,d,by omega,rfl,rfl,by go_num,by omega,by show _=_;rw[HT.o];exact HA.o,W,U,HK,X,A⟩
    omega
   ·have HT:Xr _:=HY.o hb;have r:=W.o.XI (fun x m=>((ae.refl [] wr).alloc (.cells #[int i64 o.Xz] 3)).block x (W.o.lt m) (by simp));have K:Xr (aB (wr.alloc (.cells #[int i64 o.Xz] 3)) g (gq a)):=X.o.XI (fun x m=>((ae.refl [] wr).alloc _).block x (X.o.lt m) (by simp));have z:Xr (ae [] b (wr.alloc (.cells #[int i64 o.Xz] 3))):=HK.o.alloc _;clear HX HY;go_wp2_with (at_builtin;refine aL _ rfl (.tmp 32) (.tmp 38) 24 rfl i0 (int i64 0) 8 p (bD d) underlying24 hi an ap ar rfl TQ rfl (by exact r) ⟨_,0,none⟩ 1 1 [int i64 o.Xz] rfl rfl ?d1 ?d2 TQ ?d3 ?d4 ?_)
    case d1=>intro j u Y;match j,Y with | 0,Y=>simp at Y;subst Y;simp[Addr.add]
    case d2=>intro u hu;simp at hu;subst hu;rfl
    case d3=>simp only[bD];unfold maxLen;omega
    case d4=>simp only[bD];omega
    intro n f S C t c;have R:(wr.alloc (.cells #[int i64 o.Xz] 3)).heap.size=wr.heap.size+1:=by simp
    replace c:p.XR=some n∨(wr.alloc (.cells #[int i64 o.Xz] 3)).heap.size<=n:=(by rw[R];exact c);rw[lZ d o.Xz]at C;have P:=z.o.grown t U.o;have GT:bq (wr.alloc (.cells #[int i64 o.Xz] 3)) S p ⟨some ⟨n,0,none⟩,f⟩:=bq.made t c;have Q:aB S g (gq a):=GT.beside K.o (fun q Z ag=>A.o q ag Z);have aS:b.heap.size<=n:=by
     rcases c with e | e
     ·exact U.o n e
     ·have:=z.o.size;omega
    have O:∀x,(⟨some ⟨n,0,none⟩,f⟩:Hd).XR=some x->g.XR≠some x:=fun x m Z=>by
     have e:n=x:=(by simpa [Hd.XR] using m);subst e;rcases c with e | e
     ·exact A.o n e Z
     ·have:=K.o.lt Z;omega
    have af:Xr ((bD d).n+1=(d++[o.Xz]).length):=cg (by simp[bD]);rw[af.o];have L:Xr (aB S ⟨some ⟨n,0,none⟩,f⟩ (bD (d++[o.Xz]))/\ae [] b S/\aB S g (gq a)/\(∀x,(⟨some ⟨n,0,none⟩,f⟩:Hd).XR=some x->g.XR≠some x)/\(∀x,(⟨some ⟨n,0,none⟩,f⟩:Hd).XR=some x->b.heap.size<=x)):=⟨C,P,Q,O,by intro x m;simp[Hd.XR]at m;omega⟩;clear t c r C P Q O GT R;go_wp2;go_roundg (a.length-(k+1))
    ·exact⟨k+1,⟨some ⟨n,0,none⟩,f⟩,d++[o.Xz],by omega,rfl,rfl,by go_num,by rw[Tu];show _+1<=_;omega,by show _=_;rw[HT.o,<-HA.o],L.o.1,L.o.2.2.2.2,L.o.2.1,L.o.2.2.1,L.o.2.2.2.1⟩
    omega
  ·have I:Xr (d=oZ w l):=by
    show _=_;rw[HA.o,V.o];unfold vX;rw[Ve (by omega)]
   go_wp2;go_ret;exact⟨p,by rw[<-I.o];rfl,by rw[<-I.o];exact⟨W.o,U.o,HK.o⟩⟩
theorem PM{l:Xv}(h:aB k t (bD l))(d:I<l.length):∃g,t.ao=some ⟨g,0,none⟩/\g<k.heap.size/\k.cell? ⟨g,I,none⟩=some (int i64 (l[I]:Nat))/\l.length<=t.cap:=by
 rcases h.XO with ⟨-,e,-⟩ | ⟨g,b,a,f,c,-⟩
 ·have e:l.length=0:=e;omega
 ·exact⟨g,a,h.lt (by unfold Hd.XR;rw[a];rfl),h.cell a I _ (by simp[bD,ki,d]),c⟩
theorem BS(h:jA b i y w N T H)(ok:jU w)(ha:l<w.length)(F:∀n (A:n<w.length),rW w[n]) :
  Calls prog 97 #[pointer (some ⟨i,y,none⟩),int i64 l] b fun e I=>e=returned (slice (some ⟨b.heap.size,0,none⟩) w.length w.length)/\gU I b.heap.size (mF w H l)/\ae [] b I:=by
 have a4:=ok.len;obtain⟨i1,ax,a1,a2,a3⟩:=TY Fn;have Y:Xr _:=eZ i y w N b h.recd;have m2:=fun b=>dF (P:=prog) b 134 4 i1 _ underlying134 ax a1 w.length 1 a2 (by rw[a3];omega) (by omega);obtain⟨V,O⟩:=bn (madeCells (bool false).cells (w.length*1));have K:Xr (V=((List.replicate w.length false).map bool).toArray):=cg (by rw[<-O.o,sR]);rw[O.o]at m2;have m3:=m2 b;obtain⟨W,HW⟩:=bn (b.alloc (.cells (V.setIfInBounds l (bool true)) 4));have v:gU (b.alloc (.cells V 4)) b.heap.size (List.replicate w.length false):=by
  unfold gU;rw[K.o];exact Ts _ _
 have av:Xr (gU W b.heap.size ((List.replicate w.length false).set l true)):=by
  show gU _ _ _;unfold gU;rw[<-HW.o,K.o];refine(Ts _ _).trans ?_;congr 2;rw[Ut,VH]
 have af:Xr _:=fH HW.o;have Q:(b.alloc (.cells V 4)).cell? ⟨b.heap.size,l,none⟩=some (bool false):=v.cell l false (by rw[UO,Tq (by omega)]);have f0:=am v l;have z0:=aj v;have a6:(l:Int)<w.length:=by omega
 have bj:¬(l:Int)<0:=by omega
 have bg:¬w.length<=l:=by omega
 have ac:Xr (∀n s,ae [] b s->Calls prog 100 #[pointer (some ⟨i,y,none⟩),int i64 (n:Nat)] s fun e I=>e=returned (bool (nO H n))/\I=s):=fun n s k=>Bq i y n w N T H s (h.XD k);have an:Xr (∀n s,n<w.length->ae [] b s->Calls prog 138 #[pointer (some ⟨i,y,none⟩),int i64 (n:Nat)] s fun e I=>∃z:Hd,e=returned (slice z.ao (oZ w n).length z.cap)/\io s I z (bD (oZ w n))):=fun n s A k=>Ke i y n w N T H s (h.XD k) ok A (F n A);have al:Xr (∀n,(oZ w n).length<=1100000):=fun n=>by
  unfold oZ;by_cases A:n<w.length
  ·rw[Tm A];have h1:=Wk pH (dB w n w[n]).1;have h2:=(F0 w n ok A (F n A)).len;simp only;omega
  ·rw[Um (by omega)];simp
 clear h F v m2;go_enter func97,ntmps97;go_upto_region 5 with (go_at_call 81;refine Tr Y.o ?_;rintro e wc ⟨rfl,R⟩;rw[R];clear R)
 rw[HW.o];clear Q f0 z0 m3;go_wp2
 go_loopg [6] (l+1) (fun gk nv wr=>∃(k:Nat) (d:List Bool),k<=l+1/\gk=k/\nv=int i64 ((k:Int)-1)/\d.length=w.length/\Xr (lq w H k d=mF w H l)/\Xr (gU wr b.heap.size d)/\Xr (ae [] b wr))
 ·exact⟨l+1,_,Tp _,rfl,by simp,by simp,rfl,av,af⟩
 obtain⟨k,d,hk,bc,rfl,E,U,f,G⟩:=hrel;cases k with
 | zero =>
  go_wp2;go_ret;exact⟨rfl,by rw[<-U.o];exact f.o,G.o⟩
 | succ k =>
  have az:(((k+1:Nat):Int)-1)=(k:Int):=by omega
  rw[az];have a7:(k:Int) ≥ 0:=by omega
  have aS:k<w.length:=by omega
  have bf:(k:Int)<w.length:=by omega
  have Q:=f.o.cell k (d.getD k false) (by rw[Tn,Tm (by omega)];rfl);have z0:=aj f.o;have c:Xr _:=ac.o k wr G.o;have j:Xr (¬(d.getD k false=true/\nO H k=true)->lq w H k d=mF w H l):=fun A=>by
   have:=U.o;rw[lq]at this;unfold mR at this;rw[To A]at this;exact this
  cases hm:d.getD k false
  ·rw[hm]at Q j;have HS:Xr _:=(j.o (by simp));go_wp2;go_roundg k
   ·exact⟨k,d,by omega,rfl,by go_num,E,HS,f,G⟩
   omega
  ·rw[hm]at Q j;cases hp:nO H k
   ·rw[hp]at c j;have HS:Xr _:=(j.o (by simp));go_wp2_with (go_at_call 100;refine Tr c.o ?_;rintro e wp ⟨rfl,r⟩;rw[r];clear r);go_roundg k
    ·exact⟨k,d,by omega,rfl,by go_num,E,HS,f,G⟩
    omega
   ·rw[hp]at c;have HM:Xr (lq w H k (qK d (oZ w k))=mF w H l):=by
     have:=U.o;rw[lq]at this;unfold mR at this;rw[Tq ⟨hm,hp⟩]at this;exact this
    have B:Xr _:=an.o k wr aS G.o;have a5:=al.o k;clear j U;(go_upto_region 9 with (go_at_call 100;refine Tr c.o ?_;rintro e wp ⟨rfl,r⟩;rw[r];clear r));(go_upto_region 10 with (go_at_call 138;refine Tr B.o ?_;rintro e w2 ⟨z,rfl,S⟩));have L:Xr (gU w2 b.heap.size d):=f.o.XQ S.XQ (by simp);have ad:Xr (ae [] b w2):=G.o.trans S.XQ;have ap:Xr (aB w2 z (bD (oZ w k))):=S.X6;have Z:Xr (z.XR≠some b.heap.size):=fun e=>by have:=S.far _ e;have:=aj f.o;omega
    clear S B c Q z0;obtain⟨AO,J⟩:=bn (z.ao);rw[J.o];generalize oZ w k=g at *;go_wp2
    go_loopg [8] g.length (fun gk iv wr=>∃(m:Nat) (a:List Bool),m<=g.length/\gk=g.length-m/\iv=int i64 m/\a.length=w.length/\Xr (qK a (g.drop m)=qK d g)/\Xr (gU wr b.heap.size a)/\Xr (aB wr z (bD g))/\Xr (ae [] b wr))
    ·exact⟨0,d,by omega,rfl,rfl,E,rfl,L,ap,ad⟩
    obtain⟨m,a,hi,ba,rfl,p,HD,o,u,C⟩:=hrel;rcases kn m g.length with ⟨D,bd⟩ | ⟨D,be⟩
    ·obtain⟨gp,ep,gz,d0,dc⟩:=PM u.o D;obtain rfl:AO=some ⟨gp,0,none⟩:=J.o.symm.trans ep;clear ep;have t:Xr (qK (qi a g[m]) (g.drop (m+1))=qK d g):=by
      have:=HD.o;rw[TU D]at this;exact this
     generalize g[m]=x at *;have bk:(x:Int) ≥ 0:=by omega
     rcases kn x w.length with ⟨a0,aT⟩ | ⟨a0,aT⟩
     ·have c1:=o.o.cell x (a.getD x false) (by rw[Tn,Tm (by omega)];rfl);have f1:=am o.o x;have X:Xr (qi a x=a.set x true):=cg (by unfold qi;rw[Tq (by omega)]);rw[X.o]at t;have M:Xr (gU (wr.setCell ⟨b.heap.size,x,none⟩ (bool true)) b.heap.size (a.set x true)):=o.o.set x;have ag:Xr (ae [] b (wr.setCell ⟨b.heap.size,x,none⟩ (bool true))):=C.o.sr1 (Tp _) _;have ar:Xr (aB (wr.setCell ⟨b.heap.size,x,none⟩ (bool true)) z (bD g)):=u.o.XI (fun q hq=>((ae.refl [b.heap.size] wr).sl1 _).block q (u.o.lt hq) (by simp;intro e;rw[e]at hq;exact Z.o hq));go_wp2;go_roundg (g.length-(m+1))
      ·exact⟨m+1,a.set x true,by omega,rfl,by go_num,by rw[Ul];exact p,t,M,ar,ag⟩
      omega
     ·have X:Xr (qi a x=a):=(by show _=_;unfold qi;rw[To (by omega)]);rw[X.o]at t;go_wp2;go_roundg (g.length-(m+1))
      ·exact⟨m+1,a,by omega,rfl,by go_num,p,t,o,u,C⟩
      omega
    ·have HE:Xr (a=qK d g):=by
      have:=HD.o;rw[VI (by omega)]at this;exact this
     have ai:Xr (lq w H k a=mF w H l):=cg (by rw[HE.o];exact HM.o);go_wp2;go_roundg k
     ·exact⟨k,a,by omega,rfl,by go_num,p,ai,o,C⟩
     omega
set_option maxRecDepth 512
theorem we(X:Xt)(w:World)(r:aB w zt (aE X))(L:X.length<=100000) :
  Calls prog 99 #[slice zt.ao X.length zt.cap] w fun e B=>∃n:Option Nat,e=returned (slice (vl n) X.length X.length)/\qn B n X/\(∀q,n=some q->w.heap.size<=q)/\ae [] w B:=by
 obtain⟨I,A,s,j,t⟩:=TY ke;by_cases k:X.length=0
 ·have G:X=[]:=Ue k;have p:((X.length:Int)==0)=true:=by rw[k];rfl
  clear r;go_enter func99,ntmps99;go_wp2;go_ret;exact⟨none,by rw[k];rfl,⟨⟨fun _=>G,fun _=>rfl⟩,fun b e=>by cases e⟩,(fun q e=>by cases e),ae.refl _ _⟩
 ·have p:((X.length:Int)==0)=false:=by rw[TT];omega
  have J:=fun w=>dF (P:=prog) w 61 9 I _ underlying61 A s X.length 1 j (by rw[t];omega) (by omega);obtain⟨d,a⟩:∃K,K=madeCells (string ⟨#[]⟩).cells (X.length*1):=⟨_,rfl⟩
  have C:d.size=X.length*1:=by rw[a,U6]
  rw[<-a]at J;clear a;obtain⟨W,l⟩:=bn (w.alloc (.cells d 9));have m:=fH l.o;have z:=f8 l.o;have c:(prog.info? (aE X).e).map (·.size)=some (aE X).size:=by simp[aE,A,j]
  obtain⟨y,f,g,i,v⟩:=rk (P:=prog) W 61 61 3 w.heap.size X.length zt (aE X) d 9 underlying61 c z (r.XD m) C (fun u H=>by obtain⟨x,-,rfl⟩:=UF.1 H;rfl);have F:(Builtin.copy_ #[61,61] 3 #[slice (some ⟨w.heap.size,0,none⟩) X.length X.length,slice zt.ao X.length zt.cap]).run prog W=.ok (goInt X.length) y:=f;have D:Xr (qn y (some w.heap.size) X):=⟨⟨(fun e=>by cases e),fun e=>absurd (by rw[e];rfl) k⟩,fun b e=>by cases e;exact g⟩;have E:Xr (ae [] w y):=((m.mono (S':=[w.heap.size]) (by simp)).trans i).mono (by simp);clear r m z g i v C f c;go_enter func99,ntmps99;go_upto_region 4 with fail
  rw[l.o];go_wp2;go_ret;exact⟨some w.heap.size,rfl,D.o,(fun q e=>by cases e;exact Tp _),E.o⟩
def GI(l:List St)(L:List Rw)(a k:Nat):Xt:=((List.range k).filter (RO l L a)).map (qh l)
def Cf(l:List St)(L:List Rw)(a k:Nat):Xt:=((List.range k).filter (RQ l L a)).map (qh l)
theorem Ly:GI w H z6 (d+1)=GI w H z6 d++(if RO w H z6 d=true then [qh w d] else []):=by
 unfold GI;rw[fY,Ug];split <;> rfl
theorem Lz:Cf w H z6 (d+1)=Cf w H z6 d++(if RQ w H z6 d=true then [qh w d] else []):=by
 unfold Cf;rw[fY,Ug];split <;> rfl
def L9(A B:Xt)(c:Int)(w:World)(e:Ending)(w':World):Prop:=∃b1 b2:Option Nat,e=returned (tuple #[slice (vl b1) A.length A.length,slice (vl b2) B.length B.length,int i64 c])/\qn w' b1 A/\qn w' b2 B/\(∀q,b1=some q->w.heap.size<=q)/\(∀q,b2=some q->w.heap.size<=q)/\(∀q,b1=some q->b2≠some q)/\ae [] w w'
section
attribute [local go_sem] vS
theorem SG{a:Option Nat}(h:qn k a z5)(c:ae [] k m):qn m a z5:=⟨h.nil,fun b e=>c.get (h.XR b e) (by simp)⟩
structure EV(w wr:World)(gm:Nat)(ms:List Bool)(h1 h2:Hd)(A B:Xt):Prop where
 a:io w wr h1 (aE A)
 b:io w wr h2 (aE B)
 ap:∀k,h1.XR=some k->h2.XR≠some k
 s:gU wr gm ms
 gw:w.heap.size<=gm
 f1:h1.XR≠some gm
 f2:h2.XR≠some gm
theorem EV.XD(u:EV k m I y6 t z7 z5 y3)(c:ae [] m z4):EV k z4 I y6 t z7 z5 y3 :=
 ⟨u.a.XD c,u.b.XD c,u.ap,u.s.XQ c (by simp),u.gw,u.f1,u.f2⟩
theorem EV.addA(u:EV k m I y6 t y5 z5 ya)(g:bq m z4 t z7)(o:aB z4 z7 (aE y3)):EV k z4 I y6 z7 y5 y3 ya:=by
 obtain⟨d,f,i⟩:=io.two u.a u.b u.ap g o;have l:=aj u.s;refine⟨d,f,i,u.s.XQ g.XQ (fun h=>u.f1 (aQ h)),u.gw,fun e=>?_,u.f2⟩;rcases g.XR with c | ⟨q,c,j⟩
 ·exact u.f1 (by rw[<-c];exact e)
 ·rw[e]at c;cases c;omega
theorem EV.addB(u:EV k m I y6 t z7 z5 y3)(g:bq m z4 z7 y5)(o:aB z4 y5 (aE ya)):EV k z4 I y6 t y5 z5 ya:=by
 obtain⟨j,l,n⟩:=io.two u.b u.a (fun i f d=>u.ap i d f) g o;have p:=aj u.s;refine⟨l,j,fun i f d=>n i d f,u.s.XQ g.XQ (fun h=>u.f2 (aQ h)),u.gw,u.f1,fun e=>?_⟩;rcases g.XR with c | ⟨q,c,d⟩
 ·exact u.f2 (by rw[<-c];exact e)
 ·rw[e]at c;cases c;omega
set_option maxRecDepth 100000
theorem KC(h:jA b i y w N T H)(ok:jU w)(ha:l<w.length)(ar:∀n (hn:n<w.length),rW w[n]) :
  Calls prog 66 #[pointer (some ⟨i,y,none⟩),int i64 l] b fun e w'=>if((eN H l==2)||(eN H l==3))=true then L9 [] [] 9 b e w' else L9 (pm w H l).1 (pm w H l).2 0 b e w':=by
 have a4:=ok.len;obtain⟨i0,hi,ac,ad,af⟩:=TY ke;have HV:Xr _:=om i y l w N T H b h;have aT:Xr _:=BS i y l w N T H b h ok ha ar;have HR:Xr _:=h;clear h ar;have hv:((eN H l==2)=true)∨((eN H l==2)=false/\(eN H l==3)=true)∨((eN H l==2)=false/\(eN H l==3)=false):=by
  cases (eN H l==2) <;> cases (eN H l==3) <;> simp
 obtain⟨v,Hv⟩:=bn (eN H l);rw[Hv.o]at HV hv ⊢;rcases hv with m | ⟨m,h3⟩ | ⟨m,h3⟩
 ·simp only[m,Bool.true_or,if_true];go_enter func66,ntmps66;go_wp2_with (go_at_call 96;refine Tr HV.o ?_;rintro e w1 ⟨rfl,D⟩;rw[D];clear D);go_ret3;exact⟨none,none,rfl,⟨⟨fun _=>rfl,fun _=>rfl⟩,fun i e=>by cases e⟩,⟨⟨fun _=>rfl,fun _=>rfl⟩,fun i e=>by cases e⟩,(fun q e=>by cases e),(fun q e=>by cases e),(fun q e=>by cases e),ae.refl _ _⟩
 ·simp only[h3,Bool.or_true,if_true];go_enter func66,ntmps66;go_wp2_with (go_at_call 96;refine Tr HV.o ?_;rintro e w1 ⟨rfl,D⟩;rw[D];clear D);go_ret3;exact⟨none,none,rfl,⟨⟨fun _=>rfl,fun _=>rfl⟩,fun i e=>by cases e⟩,⟨⟨fun _=>rfl,fun _=>rfl⟩,fun i e=>by cases e⟩,(fun q e=>by cases e),(fun q e=>by cases e),(fun q e=>by cases e),ae.refl _ _⟩
 ·simp only[m,h3,Bool.or_self,Bool.false_eq_true,if_false];go_enter func66,ntmps66;go_upto_region 5 with (go_at_call 96;refine Tr HV.o ?_;rintro e w1 ⟨rfl,D⟩;rw[D];clear D)
  go_upto_region 6 with (go_at_call 97;refine Tr aT.o ?_;rintro e w1 ⟨rfl,s1,S⟩)
  have aS:Xr ((mF w H l).length=w.length):=cg (by unfold mF;rw[KG,Ul,Wy]);have a1:Xr (EV b w1 b.heap.size (mF w H l) ⟨none,0⟩ ⟨none,0⟩ [] []):=⟨⟨Tw _ _ _ _,(by intro k hk;cases hk),S⟩,⟨Tw _ _ _ _,(by intro k hk;cases hk),S⟩,(by intro k hk;cases hk),s1,Tp _,(by intro e;cases e),(by intro e;cases e)⟩;clear s1 S;go_wp2
  go_loopg [8,9,11] w.length (fun gk av bv nv wr=>∃(k:Nat) (F m:Hd) (A B:Xt),k<=w.length/\gk=w.length-k/\av=slice F.ao A.length F.cap/\bv=slice m.ao B.length m.cap/\nv=int i64 k/\(A.length<=k/\B.length<=k)/\Xr (A=GI w H l k)/\Xr (B=Cf w H l k)/\Xr (EV b wr b.heap.size (mF w H l) F m A B))
  ·exact⟨0,⟨none,0⟩,⟨none,0⟩,[],[],by omega,rfl,rfl,rfl,rfl,⟨Tp _,Tp _⟩,rfl,rfl,a1⟩
  obtain⟨k,F,m,A,B,hk,a7,rfl,rfl,rfl,⟨a5,a6⟩,HA,X,R⟩:=hrel;rcases kn k w.length with ⟨V,ba⟩ | ⟨V,bc⟩
  ·have c0:=R.o.s.cell k ((mF w H l).getD k false) (by rw[Tn,Tm (by rw[aS.o];exact V)];rfl);have Z:Xr _:=Ly w H l k;have M:Xr _:=Lz w H l k;have L:Xr (RO w H l k=((mF w H l).getD k false&&(eN H k==1))):=rfl;have r:Xr (RQ w H l k=((mF w H l).getD k false&&((eN H k==2)||(eN H k==3)))):=rfl;have Y:Xr (qh w k=w[k].XU):=cg (by unfold qh;rw[Tn,Tm V];rfl);cases hm:(mF w H l).getD k false
   ·rw[hm]at c0;rw[hm,Vr]at L r;have E:Xr (A=GI w H l (k+1)):=cg (by rw[Z.o,L.o,To (by simp),TV];exact HA.o);have t:Xr (B=Cf w H l (k+1)):=cg (by rw[M.o,r.o,To (by simp),TV];exact X.o);go_wp2;go_roundg (w.length-(k+1))
    ·exact⟨k+1,F,m,A,B,by omega,rfl,rfl,rfl,by go_num,⟨by omega,by omega⟩,E,t,R⟩
    omega
   ·rw[hm]at c0;rw[hm,U5]at L r;have ai:Xr _:=bF i y k w N wr (HR.o.XD R.o.a.XQ).recd V;have ap:Xr (∀wx,ae [] wr wx->Calls prog 96 #[pointer (some ⟨i,y,none⟩),int i64 k] wx fun e w'=>e=returned (int i64 (eN H k))/\w'=wx):=fun wx kx=>om i y k w N T H wx (HR.o.XD (R.o.a.XQ.trans kx));(go_upto_region 11 with (go_at_call 98;refine Tr ai.o ?_;rintro e J ⟨rfl,k5⟩;unfold fR));have U:Xr (EV b J b.heap.size (mF w H l) F m A B):=R.o.XD k5;have G:Xr _:=ap.o J k5;clear c0 k5 ai ap R;generalize w[k].XU=d at *;generalize eN H k=vk at *;cases e1:(vk==1)
    ·rw[e1]at L;have E:Xr (A=GI w H l (k+1)):=cg (by rw[Z.o,L.o,To (by simp),TV];exact HA.o);cases e2:(vk==2)
     ·cases e3:(vk==3)
      ·rw[e2,e3,Bool.or_self]at r;have t:Xr (B=Cf w H l (k+1)):=cg (by rw[M.o,r.o,To (by simp),TV];exact X.o);go_wp2_with (go_at_call 96;refine Tr G.o ?_;rintro e K ⟨rfl,o⟩;rw[o];clear o);go_roundg (w.length-(k+1))
       ·exact⟨k+1,F,m,A,B,by omega,rfl,rfl,rfl,by go_num,⟨by omega,by omega⟩,E,t,U⟩
       omega
      ·rw[e3,Wv]at r;have t:Xr (B++[d]=Cf w H l (k+1)):=cg (by rw[M.o,r.o,Tq rfl,Y.o,<-X.o]);have x:Xr (EV b (J.alloc (.cells #[string d] 9)) b.heap.size (mF w H l) F m A B):=U.o.XD (kr0.alloc _);have z:=x.o.b.X6;go_wp2_with (first | (go_at_call 96;refine Tr G.o ?_;rintro e K ⟨rfl,o⟩;rw[o];clear o) | (at_builtin;refine aL _ rfl (.tmp 54) (.tmp 56) 61 rfl i0 (string ⟨#[]⟩) 16 m (aE B) underlying61 hi ac ad af rfl TQ rfl (by exact z) ⟨_,0,none⟩ 1 1 [string d] rfl rfl ?d1 ?d2 TQ ?d3 ?d4 ?_))
       case d1=>intro j u I;match j,I with | 0,I=>simp at I;subst I;simp[Addr.add]
       case d2=>intro u W;simp at W;subst W;rfl
       case d3=>simp only[aE];unfold maxLen;omega
       case d4=>simp only[aE];omega
       intro P f w7 p g a;have C:(J.alloc (.cells #[string d] 9)).heap.size=J.heap.size+1:=by simp
       replace a:m.XR=some P∨(J.alloc (.cells #[string d] 9)).heap.size<=P:=(by rw[C];exact a);rw[dW B d]at p;have O:Xr _:=x.o.addB (bq.made (c:=f) g a) p;have Q:Xr ((aE B).n+1=(B++[d]).length):=cg (by simp[aE]);rw[Q.o];clear g a z p C;go_wp2;go_roundg (w.length-(k+1))
       ·exact⟨k+1,F,⟨some ⟨P,0,none⟩,f⟩,A,B++[d],by omega,rfl,rfl,rfl,by go_num,⟨by omega,by rw[Tu];show _+1<=_;omega⟩,E,t,O⟩
       omega
     ·rw[e2,Vn]at r;have t:Xr (B++[d]=Cf w H l (k+1)):=cg (by rw[M.o,r.o,Tq rfl,Y.o,<-X.o]);have x:Xr (EV b (J.alloc (.cells #[string d] 9)) b.heap.size (mF w H l) F m A B):=U.o.XD (kr0.alloc _);have z:=x.o.b.X6;go_wp2_with (first | (go_at_call 96;refine Tr G.o ?_;rintro e K ⟨rfl,o⟩;rw[o];clear o) | (at_builtin;refine aL _ rfl (.tmp 54) (.tmp 56) 61 rfl i0 (string ⟨#[]⟩) 16 m (aE B) underlying61 hi ac ad af rfl TQ rfl (by exact z) ⟨_,0,none⟩ 1 1 [string d] rfl rfl ?d1 ?d2 TQ ?d3 ?d4 ?_))
      case d1=>intro j u I;match j,I with | 0,I=>simp at I;subst I;simp[Addr.add]
      case d2=>intro u W;simp at W;subst W;rfl
      case d3=>simp only[aE];unfold maxLen;omega
      case d4=>simp only[aE];omega
      intro P f w7 p g a;have C:(J.alloc (.cells #[string d] 9)).heap.size=J.heap.size+1:=by simp
      replace a:m.XR=some P∨(J.alloc (.cells #[string d] 9)).heap.size<=P:=(by rw[C];exact a);rw[dW B d]at p;have O:Xr _:=x.o.addB (bq.made (c:=f) g a) p;have Q:Xr ((aE B).n+1=(B++[d]).length):=cg (by simp[aE]);rw[Q.o];clear g a z p C;go_wp2;go_roundg (w.length-(k+1))
      ·exact⟨k+1,F,⟨some ⟨P,0,none⟩,f⟩,A,B++[d],by omega,rfl,rfl,rfl,by go_num,⟨by omega,by rw[Tu];show _+1<=_;omega⟩,E,t,O⟩
      omega
    ·have ev:vk=1:=(by simpa using e1);subst ev;have t:Xr (B=Cf w H l (k+1)):=cg (by rw[M.o,r.o,To (by decide),TV];exact X.o);have E:Xr (A++[d]=GI w H l (k+1)):=cg (by rw[Z.o,L.o,Tq (by decide),Y.o,<-HA.o]);have x:Xr (EV b (J.alloc (.cells #[string d] 9)) b.heap.size (mF w H l) F m A B):=U.o.XD (kr0.alloc _);have z:=x.o.a.X6;go_wp2_with (first | (go_at_call 96;refine Tr G.o ?_;rintro e K ⟨rfl,o⟩;rw[o];clear o) | (at_builtin;refine aL _ rfl (.tmp 47) (.tmp 49) 61 rfl i0 (string ⟨#[]⟩) 16 F (aE A) underlying61 hi ac ad af rfl TQ rfl (by exact z) ⟨_,0,none⟩ 1 1 [string d] rfl rfl ?d1 ?d2 TQ ?d3 ?d4 ?_))
     case d1=>intro j u I;match j,I with | 0,I=>simp at I;subst I;simp[Addr.add]
     case d2=>intro u W;simp at W;subst W;rfl
     case d3=>simp only[aE];unfold maxLen;omega
     case d4=>simp only[aE];omega
     intro P f w7 p g a;have C:(J.alloc (.cells #[string d] 9)).heap.size=J.heap.size+1:=by simp
     replace a:F.XR=some P∨(J.alloc (.cells #[string d] 9)).heap.size<=P:=(by rw[C];exact a);rw[dW A d]at p;have O:Xr _:=x.o.addA (bq.made (c:=f) g a) p;have Q:Xr ((aE A).n+1=(A++[d]).length):=cg (by simp[aE]);rw[Q.o];clear g a z p C;go_wp2;go_roundg (w.length-(k+1))
     ·exact⟨k+1,⟨some ⟨P,0,none⟩,f⟩,m,A++[d],B,by omega,rfl,rfl,rfl,by go_num,⟨by rw[Tu];show _+1<=_;omega,by omega⟩,E,t,O⟩
     omega
  ·have e:k=w.length:=(by omega);subst e;have ax:Xr (A=(pm w H l).1):=HA.o;have az:Xr (B=(pm w H l).2):=X.o;have al:Xr _:=(we F A wr R.o.a.X6 (by omega));have an:Xr (∀K,ae [] wr K->Calls prog 99 #[slice m.ao B.length m.cap] K fun e w'=>∃bo:Option Nat,e=returned (slice (vl bo) B.length B.length)/\qn w' bo B/\(∀q,bo=some q->K.heap.size<=q)/\ae [] K w'):=fun K k6=>we m B K (R.o.b.X6.XD k6) (by omega);have ag:Xr (ae [] b wr):=R.o.a.XQ;clear R HA X;go_wp2_with (first | (go_at_call 99;refine Tr al.o ?_;rintro e K ⟨b1,rfl,x1,n1,S⟩;have a2:Xr (qn K b1 A/\(∀q,b1=some q->wr.heap.size<=q)/\ae [] wr K):=⟨x1,n1,S⟩;have a0:Xr _:=an.o K S;clear al an x1 n1 S) | (go_at_call 99;refine Tr a0.o ?_;rintro e w7 ⟨b2,rfl,x2,n2,k2⟩));go_ret3;rw[<-ax.o,<-az.o];obtain⟨x1,n1,S⟩:=a2.o;have a3:=ag.o.size;have bd:=S.size;refine⟨b1,b2,rfl,(SG x1 k2),x2,(fun q e=>TE a3 (n1 q e)),(fun q e=>by have:=n2 q e;omega),(fun q e e2=>?_),(ag.o.trans S).trans k2⟩;have h8:=n2 q e2;have h9:=aj (x1.XR q e);omega
end
theorem nE.repAt{l:List St}{H:Nat->Hd}(h:nE k I yd l H y9):jA k I 10 l H y9 (bP l l.length) :=
 ⟨h.recd,h.tellA.cell,h.tellA.arr⟩
theorem IZ(a:World)(k:ae [] b a):L9 [] [] g b (returned (tuple #[slice none 0 0,slice none 0 0,int i64 g])) a :=
 ⟨none,none,rfl,⟨⟨fun _=>rfl,fun _=>rfl⟩,fun c e=>by cases e⟩,⟨⟨fun _=>rfl,fun _=>rfl⟩,fun c e=>by cases e⟩,(fun q e=>by cases e),(fun q e=>by cases e),(fun q e=>by cases e),k⟩
theorem GM(h:kB b o S) :
  Calls prog 43 #[pointer (some ⟨o,0,none⟩),string x] b fun e a=>L9 [] [] 7 b e a:=by
 have c:Xr (Calls prog 60 #[pointer (some ⟨o,0,none⟩),string x] b fun e a=>e=returned (tuple #[int i64 0,int i64 7])/\ae [] b a):=by
  show Calls _ _ _ _ _;obtain⟨f,-⟩:=jq.cells h;clear h;go_enter func60,ntmps60;go_wp2;go_ret2;exact⟨rfl,ae.refl _ _⟩
 clear h;go_enter func43,ntmps43;go_wp2_with (go_at_call 60;refine Tr c.o ?_;rintro e g ⟨rfl,d⟩);go_ret3;exact IZ 7 b _ d
def zi(l:List St)(lab:Xs):(Xt×Xt)×Int:=match lh l lab with
 | none=>(([],[]),8)
 | some n=>if((eN (bP l l.length) n==2)||(eN (bP l l.length) n==3))=true then(([],[]),9) else(pm l (bP l l.length) n,0)
def uN(fs:Fs)(st:Option Nat)(lab:Xs):(Xt×Xt)×Int:=match st with
 | none=>(([],[]),7)
 | some k=>zi (bE fs k).2.2.XP lab
theorem L9.base{c:Int}{e:Ending}(h:L9 z5 y3 c m e z4)(a:ae [] k m):L9 z5 y3 c k e z4:=by
 obtain⟨b,d,f,g,i,j,l,n,o⟩:=h;have:=a.size;exact⟨b,d,f,g,i,(fun q e=>by have:=j q e;omega),(fun q e=>by have:=l q e;omega),n,a.trans o⟩
theorem LF(h:nE b o S w N T)(v:jU w)(g:∀n (u:n<w.length),rW w[n]) :
  Calls prog 43 #[pointer (some ⟨o,0,none⟩),string x] b fun e k=>L9 (zi w x).1.1 (zi w x).1.2 (zi w x).2 b e k:=by
 have t:=v.len;have i:=LD o S w N T x b h (by omega);have s:=bO.lt (Wz (Wz (Wz h.ver)));unfold zi;cases p:lh w x with
 | none =>
  rw[p]at i;have f:Xr _:=i;clear i h g;go_enter func43,ntmps43;go_wp2_with (go_at_call 60;refine Tr f.o ?_;rintro e a ⟨rfl,d⟩);go_ret3;exact IZ 8 b _ d
 | some n =>
  rw[p]at i;obtain⟨u,J,-⟩:=C0 p;have f:Xr _:=i;have j:Xr (∀a,ae [] b a->Calls prog 66 #[pointer (some ⟨o,10,none⟩),int i64 n] a fun e k=>L9 (if((eN (bP w w.length) n==2)||(eN (bP w w.length) n==3))=true then((([],[]),9):(Xt×Xt)×Int) else(pm w (bP w w.length) n,0)).1.1 (if((eN (bP w w.length) n==2)||(eN (bP w w.length) n==3))=true then((([],[]),9):(Xt×Xt)×Int) else(pm w (bP w w.length) n,0)).1.2 (if((eN (bP w w.length) n==2)||(eN (bP w w.length) n==3))=true then((([],[]),9):(Xt×Xt)×Int) else(pm w (bP w w.length) n,0)).2 a e k):=fun a d=>by
   refine(KC o 10 n w N T (bP w w.length) a (h.XD d).repAt v u g).mono (fun e k q=>?_);split at q
   ·next r=>rw[Tq r];exact q
   ·next r=>rw[To r];exact q
  have y:Xr (∀a,ae [] b a->o<a.heap.size):=fun a d=>Tv s d.size;clear i h g;simp only;generalize (if((eN (bP w w.length) n==2)||(eN (bP w w.length) n==3))=true then((([],[]),9):(Xt×Xt)×Int) else(pm w (bP w w.length) n,0))=R at *;obtain⟨⟨A,B⟩,c⟩:=R;simp only at j ⊢;go_enter func43,ntmps43;go_upto_region 4 with (go_at_call 60;refine Tr f.o ?_;rintro e a ⟨rfl,d⟩)
  have m:Xr _:=j.o a d;have l:Xr _:=d;clear d;go_wp2_with (go_at_call 66;refine Tr m.o ?_;rintro e K ⟨z,C,rfl,D,E,F,G,H,I⟩);go_ret3;exact L9.base ⟨z,C,rfl,D,E,F,G,H,I⟩ l.o
theorem NG(d:eu b o S l T z3)(a:∀j,j<S.length->(ak S j).size<=1024) :
  Calls prog 43 #[pointer (some ⟨o,0,none⟩),string x] b fun e f=>L9 (uN S z3 x).1.1 (uN S z3 x).1.2 (uN S z3 x).2 b e f:=by
 have c:=d.s;cases z3 with
 | none=>exact GM o S x b c
 | some k =>
  obtain⟨-,H,g,r,-⟩:=c;exact LF o S _ H g x b r (uo S a k).ok (uo S a k).prf
def QR(A B:Xt)(c:Int)(w:World)(e:Ending)(w':World):Prop:=∃h1 h2:Hd,e=returned (tuple #[slice h1.ao A.length h1.cap,slice h2.ao B.length h2.cap,int i64 c])/\io w w' h1 (aE A)/\io w w' h2 (aE B)
theorem IY:QR [] [] g b (returned (tuple #[slice none 0 0,slice none 0 0,int i64 g])) b :=
 ⟨⟨none,0⟩,⟨none,0⟩,rfl,IF b [] rfl,IF b [] rfl⟩
theorem EA(c:Int)(g:(c != 0)=true)(w:World)(d:Calls prog 62 #[pointer (some ⟨T,0,none⟩),string x] w fun e b=>e=returned (tuple #[int i64 0,int i64 c])/\b=w) :
  Calls prog 44 #[pointer (some ⟨T,0,none⟩),string x] w fun e b=>QR [] [] c w e b:=by
 have f:Xr _:=d;clear d;go_enter func44,ntmps44;go_wp2_with (go_at_call 62;refine Tr f.o ?_;rintro e i ⟨rfl,a⟩;rw[a];clear a);go_ret3;exact IY c w
set_option maxRecDepth 100000
theorem Ow(s:List Tk)(v:Xu)(Y:Nat)(S:List Sm)(u:Xu)(X:Nat)(V W:Value)(m:List (jO×Hd))(n:Xu)(J:Nat)(c:List ip)(g:Xu)(E:Nat)(w:World)(hD:gx w l s v Y S u X)(B:OG w y l V W m n J c g E)(M:T<m.length)(p:T<c.length)(N:T<S.length)(ha:T<=10000)(A:∀j,j<=T->(aq S j).a<s.length)(C:∀t,t<=T->(g9 m t).1.st.length<=100000000/\∀i,i<(g9 m t).1.st.length->(bN (g9 m t).1.st i).ref<=(T:Int))(hA:Calls prog 62 #[pointer (some ⟨y,0,none⟩),string x] w fun e F=>e=returned (tuple #[int i64 T,int i64 0])/\F=w) :
  Calls prog 44 #[pointer (some ⟨y,0,none⟩),string x] w fun e F=>if(!(cK c T) && !((dV c T).XE==1))=true then QR [] [] 9 w e F else ∃b:List Bool,(∀k,b.getD k false=true ↔ eI m c T k)/\QR (Jl s S b (T+1)) (Cp s S c b (T+1)) 0 w e F:=by
 have G:Xr _:=hA;have f:Xr _:=At y l T V W m n J c g E w B p;have q:Xr _:=v6 y l T s v Y S u X V W m n J c g E w hD B M p N ha A C;obtain⟨gr,z,ad,Z⟩:=B.r T _ (wS c T p);have c1:w.cell? ⟨gr,T*6+1,none⟩=some (int i64 (dV c T).XE):=Z 1 _ rfl;have d4:w.cell? ⟨y,4,none⟩=some (slice g c.length E):=by rw[ah B.d];rfl
 rw[z]at d4;have ac:(T:Int)<c.length:=by omega
 clear hA hD B A C Z z;obtain⟨sd,H⟩:=bn (cK c T);obtain⟨U,I⟩:=bn ((dV c T).XE);rw[H.o]at f ⊢;rw[I.o]at c1 ⊢;cases sd
 ·cases hv:(U==1)
  ·have O:(U != 1)=true:=(by simp[bne,hv]);simp only[Bool.not_false,Bool.and_self,if_true];go_enter func44,ntmps44;go_wp2_with (first | (go_at_call 62;refine Tr G.o ?_;rintro e D ⟨rfl,a⟩;rw[a];clear a) | (go_at_call 67;refine Tr f.o ?_;rintro e D ⟨rfl,a⟩;rw[a];clear a));go_ret3;exact IY 9 w
  ·have O:(U != 1)=false:=(by simp[bne,hv]);simp only[Bool.not_false,Bool.not_true,Bool.and_false,Bool.false_eq_true,if_false];go_enter func44,ntmps44;(go_upto_region 7 with (first | (go_at_call 62;refine Tr G.o ?_;rintro e D ⟨rfl,a⟩;rw[a];clear a) | (go_at_call 67;refine Tr f.o ?_;rintro e D ⟨rfl,a⟩;rw[a];clear a)));go_wp2_with (go_at_call 68;refine Tr q.o ?_;rintro e w2 ⟨b,K,L,P,rfl,Q,R⟩);go_ret3;exact⟨b,P,K,L,rfl,Q,R⟩
 ·simp only[Bool.not_true,Bool.false_and,Bool.false_eq_true,if_false];go_enter func44,ntmps44;go_upto_region 7 with (first | (go_at_call 62;refine Tr G.o ?_;rintro e D ⟨rfl,a⟩;rw[a];clear a) | (go_at_call 67;refine Tr f.o ?_;rintro e D ⟨rfl,a⟩;rw[a];clear a))
  go_wp2_with (go_at_call 68;refine Tr q.o ?_;rintro e w2 ⟨b,K,L,P,rfl,Q,R⟩);go_ret3;exact⟨b,P,K,L,rfl,Q,R⟩
theorem EU.rf{T:List Tk}{f b:Nat}{m:Xu}{o:Nat}{l:Xu}{n:Nat}{d:List (jO×Hd)}{j:List ip}(r:EU k I yd t T y9 f b m o l n d z7 j y5)(v:T.length<=10000)(u:fn T){a c:Nat}(w:c<=a)(g:c<(aa T).length):(g9 d c).1.st.length<=100000000/\∀i,i<(g9 d c).1.st.length->(bN (g9 d c).1.st i).ref<=(a:Int):=by
 have B:(aa T).length<=T.length:=pJ _ _;have p:(g9 d c).1=nN (aa T) (DI T (aa T)) c:=by
  have:(d.map (·.1))[c]?=((List.range (aa T).length).map (nN (aa T) (DI T (aa T))))[c]?:=by rw[r.ps]
  rw[T0,T0,Vf g]at this;unfold g9;rw[Tn];cases e:d[c]? with
  | none=>rw[e]at this;cases this
  | some x=>rw[e]at this;exact UP this
 rw[p];unfold nN;split
 ·obtain⟨P,D⟩:=(dN T).s c g;obtain⟨y,-,A⟩:=sI (T:=T) (S:=aa T) (a:=c) (by omega) u v (zk T (aa T) c) ((aq (aa T) c).z-1) (by omega);refine⟨A,fun i f=>?_⟩;rcases(y i f).XO with e | ⟨e,-⟩ | ⟨q,⟨C,-⟩,e,-⟩
  all_goals
   show(bN (fB T (aa T) c _ _).st i).ref<=_
   rw[e];omega
 ·exact⟨by show(0:Nat)<=_;omega,fun i f=>by cases f⟩
theorem MF(hm:dL b o S zt l T z3)(N:∀k,z3=some k->k<S.length/\((gi S k).1==0)=true)(M:S.length<=4)(Q:∀j,j<S.length->(ak S j).size<=1024) :
  Calls prog 44 #[pointer (some ⟨o,0,none⟩),string x] b fun e A=>QR (uN S z3 x).1.1 (uN S z3 x).1.2 (uN S z3 x).2 b e A:=by
 have X:=hm.s;cases z3 with
 | none =>
  obtain⟨p2,p3,p4,r⟩:=X;exact EA o x 7 (by decide) b (Mg o x _ p2 p3 p4 b r.d)
 | some k =>
  obtain⟨hk,h0⟩:=N k rfl;obtain⟨G,W,hO⟩:=In M Q hk h0;obtain⟨V,Z,cT,Y,cS,I,H,w,y,r⟩:=X;have J:=r.XX.tell;have C:=aB.srcG (f:=ld) r.s2 (fun _=>rfl);have hl:(aa (cM S k).1).length<=(cM S k).1.length:=pJ _ _;have c:=G.r.find J x;have B:=Mf o x w y.ao y.cap _ _ _ b r.rv.d C (by rw[J.len];omega);show Calls _ _ _ _ fun e A=>QR (zi (bE S k).2.2.XP x).1.1 (zi (bE S k).2.2.XP x).1.2 (zi (bE S k).2.2.XP x).2 b e A;unfold zi;cases K:lh (bE S k).2.2.XP x with
  | none =>
   rw[K]at c;refine EA o x 8 (by decide) b (B.mono (fun e A q=>?_));obtain⟨v,z⟩:=q;rw[c]at v;exact⟨v,z⟩
  | some n =>
   rw[K]at c;obtain⟨g,hA,-⟩:=C0 K;have D:=G.r.hel.at_ g;have ac:I.length=(aa (cM S k).1).length:=by
    have:=congrArg List.length r.ps;rw[TR,TR,U7]at this;exact this
   have hJ:OG b o V (slice zt.ao S.length zt.cap) (bool true) I H.ao H.cap w y.ao y.cap:=⟨r.rv.d,aB.srcG (f:=OH) r.s1 (fun _=>rfl),r.sq,C⟩;refine(Ow o V (aw (aa (cM S k).1) n) x _ Z cT _ Y cS _ _ I H.ao H.cap w y.ao y.cap b r.db hJ (by omega) (by rw[J.len];exact D) D (by omega) (fun j hj=>(OD _ W G.u _ (Tp _)).ok.a j (by omega)) (fun t ht=>r.rf W hO ht (by omega)) (B.mono (fun e A q=>?_))).mono (fun e A q=>?_)
   ·obtain⟨v,z⟩:=q;rw[c]at v;exact⟨v,z⟩
   ·have F:=G.r.rows G.f G.u G.p r.ps r.XX n g;obtain⟨s,m,-⟩:=G.r.get g;obtain⟨O,-⟩:=G.r.rea G.f G.u G.p r.ps r.XX g;have P:=O n g;have R:(dV w (aw (aa (cM S k).1) n)).XE=(fh (bE S k).2.2.XP n).XE:=(by rw[F];rfl);have U:=tq (bE S k).2.2.XP g;have i:(!(cK w (aw (aa (cM S k).1) n)) && !((dV w (aw (aa (cM S k).1) n)).XE==1))=((eN (bP (bE S k).2.2.XP (bE S k).2.2.XP.length) n==2)||(eN (bP (bE S k).2.2.XP (bE S k).2.2.XP.length) n==3)):=by
     obtain⟨-,k1,k2⟩:=uw m;have E:oA s.XS=true:=by
      have:(bE S k).2.2.XP[n]=s:=(by rw[Tm g]at m;exact UP m);rw[<-this];exact hA
     rw[<-P];unfold nO;rw[U,R,k2,k1];have:s.XS=4∨s.XS=5:=by
      unfold oA at E;simpa using E
     rcases this with e | e <;> rw[e] <;> simp
    simp only;rw[<-i];split at q
    ·next L=>rw[Tq L];exact q
    ·next L =>
     rw[To L];obtain⟨ad,v,z⟩:=q;obtain⟨u1,u2⟩:=G.r.uses G.f G.u G.p r.ps r.XX g v;rw[u1,u2]at z;exact z
theorem ou.move(s:ou k y7)(c g:Nat×Nat)(m:It)(e:y7 c=m):ou k (ed (ed y7 c Sx) g m):=by
 have l:∀q b,q≠g->b∈(ed (ed y7 c Sx) g m q).B->q≠c/\b∈(y7 q).B:=fun q b h a=>by
  rw[Tj _ _ h]at a;by_cases f:q=c
  ·rw[f,bA]at a;cases a
  ·rw[Tj _ _ f]at a;exact⟨f,a⟩
 refine⟨fun q=>?_,fun q i o b a d=>?_⟩
 ·by_cases h:q=g
  ·rw[h,bA,<-e];exact s.all c
  ·rw[Tj _ _ h];by_cases d:q=c
   ·rw[d,bA];exact trivial
   ·rw[Tj _ _ d];exact s.all q
 ·by_cases h:q=g
  ·obtain⟨f,j⟩:=l i b (fun x=>o (h.trans x.symm)) d;rw[h,bA,<-e]at a;exact s.far c i (Ne.symm f) b a j
  ·obtain⟨p,j⟩:=l q b h a;by_cases n:i=g
   ·rw[n,bA,<-e]at d;exact s.far q c p b j d
   ·obtain⟨f,r⟩:=l i b n d;exact s.far q i o b j r
theorem cI.lay2{M:Mc}{c:List Tx}(h:cI k I y7 M t c y9)(a b:It)(n:ae [] k m)(o:a.P m)(p:b.P m)(f:∀q,q∈a.B->k.heap.size<=q)(g:∀q,q∈b.B->k.heap.size<=q)(l:∀q,q∈a.B->q∉b.B):cI m I (ed (ed y7 (12,c.length) a) (17,0) b) M t c y9 :=
 h.re (h.m.sep.put2 (12,c.length) (17,0) (bm (by decide)) a b (n.mono (by simp)) o p (fun q d=>TA (f q d)) (fun q d=>TA (g q d)) l) (fun j i r=>by rw[Tj _ _ (bm (by omega)),Tj _ _ (fun e=>by cases e;omega)])
theorem Mb(a:AJ S):(uN S z3 x).1.1.length<=900000000/\(uN S z3 x).1.2.length<=900000000:=by
 unfold uN;cases z3 with
 | none=>exact⟨Ub _,Ub _⟩
 | some k =>
  have d:=(uo S a k).ok.len;unfold zi;simp only;cases lh (bE S k).2.2.XP x with
  | none=>exact⟨Ub _,Ub _⟩
  | some n =>
   simp only;split
   ·exact⟨Ub _,Ub _⟩
   ·simp only[pm,List.length_map];have b:=U0 (RO (bE S k).2.2.XP (bP (bE S k).2.2.XP (bE S k).2.2.XP.length) n) (List.range (bE S k).2.2.XP.length);have c:=U0 (RQ (bE S k).2.2.XP (bP (bE S k).2.2.XP (bE S k).2.2.XP.length) n) (List.range (bE S k).2.2.XP.length);rw[U7]at b c;exact⟨by omega,by omega⟩
theorem Ez(n:Fs)(hd:Hd)(lo hi K H:Nat)(r:Option Nat)(b:Xs)(w:World)(h:cI w D L v y4 s M)(hN:M<=1073741825)(hn:s.length+2<=3*M)(V:oL w L v T z6 d n hd lo hi K H r) :
  Calls prog 20 #[pointer (some ⟨D,0,none⟩),pointer (some ⟨z6,0,none⟩),pointer (some ⟨d,0,none⟩),string b] w fun e w'=>Cy D L v (s.length+2) M e w':=by
 have F:Xr _:=NG z6 n lo hi r b w V.p V.ok;have E:Xr (∀u,ae [] w u->Calls prog 44 #[pointer (some ⟨d,0,none⟩),string b] u fun e w'=>QR (uN n r b).1.1 (uN n r b).1.2 (uN n r b).2 u e w'):=fun u k=>MF d n hd K H r b u (V.d.XD k) V.st V.le V.ok;have t:Xr _:=Mb n r b V.ok;have HM:Xr (cI w D L v y4 s M):=h;generalize uN n r b=R at *;obtain⟨⟨A,B⟩,c⟩:=R;simp only at F E t;clear h V;go_enter func20,ntmps20;go_upto_region 2 with (go_at_call 43;refine Tr F.o ?_;rintro e w1 ⟨l,f,rfl,x1,x2,n1,n2,n3,k1⟩)
 have U:Xr _:=k1;have C:Xr _:=(HM.o.lay2 (vf l A) (vf f B) k1 x1 x2 (fun q J=>n1 q (wL J)) (fun q J=>n2 q (wL J)) (fun q N g=>n3 q (wL N) (wL g)));clear x1 x2 n1 n2 n3 k1;go_upto_region 3 with (go_at_call 44;refine Tr (E.o w1 U.o) ?_;rintro e u ⟨N,g,rfl,y1,Q⟩)
 have X:Xr _:=(C.o.lay (b8 g (aE B)) (a:=18) (c:=0) (TA (by decide)) Q.XQ Q.X6 (fun q J=>Q.far q (aQ J)));have x:Xr (ed (ed (ed L (12,s.length) (vf l A)) (17,0) (vf f B)) (18,0) (b8 g (aE B)) (12,s.length)=vf l A):=cg (by rw[Tj _ _ (bm (by decide)),Tj _ _ (bm (by decide)),bA]);have y:Xr (ed (ed (ed L (12,s.length) (vf l A)) (17,0) (vf f B)) (18,0) (b8 g (aE B)) (17,0)=vf f B):=cg (by rw[Tj _ _ (bm (by decide)),bA]);have z:Xr (ed (ed (ed L (12,s.length) (vf l A)) (17,0) (vf f B)) (18,0) (b8 g (aE B)) (18,0)=b8 g (aE B)):=bA _ _ _;have S:Xr (∀j T,(0<j/\j<=10)∨(14<=j/\j<=16)->ed (ed (ed L (12,s.length) (vf l A)) (17,0) (vf f B)) (18,0) (b8 g (aE B)) (j,T)=L (j,T)):=fun j T I=>by rw[Tj _ _ (bm (by omega)),Tj _ _ (bm (by omega)),Tj _ _ (bm (by omega))]
 generalize ed (ed (ed L (12,s.length) (vf l A)) (17,0) (vf f B)) (18,0) (b8 g (aE B))=I2 at *;have W:Xr _:=(zX D M I2 v y4 s l N A u X.o hN (by omega) x.o y1.X6 t.o.1);clear y1 Q C;obtain⟨rb,G⟩:=bn (vl f);rw[G.o];generalize vl l=ra at *;obtain⟨al,an⟩:=N;obtain⟨ad,af⟩:=g;go_upto_region 4 with (go_at_call 42;refine Tr W.o ?_;rintro e w3 ⟨rfl,I3,v3,ag,i,O,q2,P⟩)
 have m:Xr _:=(zX D M _ _ ag i f ⟨ad,af⟩ B w3 (O.re (O.m.sep.move (17,0) (12,i.length) (vf f B) ((P 17 0 (TA (by decide))).trans y.o)) (fun j T I=>by rw[Tj _ _ (fun e=>by cases e;omega),Tj _ _ (bm (by omega))])) hN (by omega) (bA _ _ _) (by have:=O.m.sep.all (18,0);rw[P 18 0 (TA (by decide)),z.o]at this;exact this) t.o.2);rw[G.o]at m;have Y:Xr (i.length+1=s.length+2):=cg (by omega);have Z:Xr (∀j T,(0<j/\j<=10)∨(14<=j/\j<=16)->ed (ed I3 (17,0) Sx) (12,i.length) (vf f B) (j,T)=L (j,T)):=fun j T I=>by rw[Tj _ _ (bm (by omega)),Tj _ _ (bm (by omega)),P j T (by omega)];exact S.o j T I
 clear O q2 P;go_wp2_with (go_at_call 42;refine Tr m.o ?_;rintro e w4 ⟨rfl,I4,v4,ai,ac,r1,r2,r3⟩);go_ret;exact⟨rfl,I4,v4,ai,ac,r1,r2.trans Y.o,fun j T I=>(r3 j T (by omega)).trans (Z.o j T I)⟩
theorem OS(a:Xs)(w:World)(Q:World->Prop)(c:Calls prog 20 #[pointer (some ⟨y,0,none⟩),pointer (some ⟨l,0,none⟩),pointer (some ⟨T,0,none⟩),string x] w fun e b=>e=returned (bool true)/\Q b) :
  Calls prog 24 #[pointer (some ⟨y,0,none⟩),pointer (some ⟨l,0,none⟩),pointer (some ⟨T,0,none⟩),string x,string a,int i64 13] w fun e b=>e=returned (bool true)/\Q b:=by
 have d:Xr _:=c;clear c;go_enter func24,ntmps24;go_wp2_with (go_at_call 20;refine Tr d.o ?_;rintro e g ⟨rfl,f⟩);go_ret;exact⟨rfl,f⟩
theorem RB(C d:Int)(c t:Xs)(w:World)(h:cI w D L v y4 s M)(hV:v.V.length≠0)(hA:ri g)(hN:M<=1073741824) :
  Calls prog 10 #[pointer (some ⟨D,0,none⟩),agg #[int i64 13,int i64 g,int i64 C,int i64 d,string c,string t]] w fun e j=>pY D L M e j:=by
 obtain⟨W,Q⟩:=bn (w.alloc (.cells #[int i64 13,int i64 g,int i64 C,int i64 d,string c,string t] 28));obtain⟨K,J,af,y⟩:=h.m.boxed 13 g C d c t W Q.o;have HT:Xr (cI W D L v y4 s M):=h.XD y;obtain⟨z,A,T,U,X,Y,B⟩:=du J;have Z:Xr _:=(lV D M L v 13 g C d c t W K (by omega));have HS:Xr (iq W D w.heap.size L v M 13 g C d c t):=⟨K,J⟩;have ad:=h.m.len.1;have l:Xr (∀F,Calls prog 13 #[int i64 g,int i64 v.V.length] F fun e j=>e=returned (int i64 (fw g v.V.length:Nat))/\j=F):=fun F=>fF g v.V.length F hA ⟨by omega,by omega⟩;have u:=hQ g v.V.length (by omega);obtain⟨i,Hi⟩:=bn (fw g v.V.length);rw[Hi.o]at l u;have ac:((v.V.length:Int)==0)=false:=TT.2 (by omega);have ag:(i:Int)<(v.V.length:Int):=by omega
 clear h K J y;go_enter func10,ntmps10;go_upto_region 1 with fail
 rw[Q.o];go_upto_region 2 with (go_at_call 12;refine Tr Z.o ?_;rintro e E ⟨rfl,O⟩)
 have a:Xr (iq E D w.heap.size L v M 13 g C d c t):=HS.o.XD O;have H:Xr (cI E D L v y4 s M):=HT.o.XD O;clear z A T U X Y B O;obtain⟨z,A,-⟩:=du a.o.o;have B:=aj a.o.o;have I:E.cell? ⟨D,0,none⟩=some (slice v.hx.ao v.V.length v.hx.cap):=by rw[ah a.o.m.XR];rfl
 go_upto_region 4 with fail
 go_quiet ((go_at_call 13;exact TZ (l.o _)));go_upto_region 5 with fail
 obtain⟨k,f⟩:=bn (E.drewN nq);rw[f.o];have b:Xr (iq k D w.heap.size L v M 13 g C d c t):=a.o.XD (by rw[<-f.o];exact kr0.drewN nq);have p:Xr (cI k D L v y4 s M):=H.o.XD (by rw[<-f.o];exact kr0.drewN nq);clear z A B I;obtain⟨z,A,T,U,X,Y,B⟩:=du b.o.o;obtain⟨x,m,fs,hd,lo,hi,P,N,st,g1,g2,r,⟨R,z1,d1⟩,S,z2,d2⟩:=b.o.m.ver u;have I:k.cell? ⟨D,0,none⟩=some (slice v.hx.ao v.V.length v.hx.cap):=by rw[ah b.o.m.XR];rfl
 have c1:k.cell? ⟨D,1,none⟩=some (slice v.hm.ao v.V.length v.hm.cap):=by rw[ah b.o.m.XR];rfl
 rw[R]at I;rw[S]at c1;have G:Xr (Calls prog 20 #[pointer (some ⟨D,0,none⟩),pointer (some ⟨x,0,none⟩),pointer (some ⟨m,0,none⟩),string c] k fun e j=>pY D L M e j):=(Ez D (M+1) L v y4 s i x m fs hd lo hi P N st c k p.o.more (by omega) (by have:=p.o.t.n;omega) r).mono (fun e j q=>Cy.ms q);clear r R S;go_wp2_with (go_at_call 20;refine Tr G.o ?_;rintro e w3 ⟨rfl,q1⟩);go_ret;exact⟨rfl,q1⟩
theorem Qn:xc (XT 13):=by
 rintro b N I M j c ⟨k,A,C,D,s,t⟩ w h p F H r;obtain⟨u,B,v,O,G,L⟩:=F;rcases H with e | ⟨e,d⟩
 ·replace e:k=13:=e;subst e;exact RB b N I M j c A C D s t w h r u p
 ·replace e:k=19:=e;replace d:D=13:=d;subst e d;exact RC b N I M j c A C 13 s t w h r u B p (fun i x m z v J E l g K a y o f=>OS b x m a s y _ ((Ez b (N+1) I M j c i x m z v J E l g K a y o.more (by omega) (by have:=o.t.n;omega) f).mono (fun e P q=>Cy.ms q)))
theorem FL(f:Xu)(a:Nat)(l:List nD)(w:World)(j:l.length*64<=140737488351232)(i:mU w f l)(k:∀o∈l,ze o) :
  Calls prog 4 #[slice f l.length a] w fun e s=>e=returned (bool true)/\ae [] w s:=by
 have c:Xr _:=Nw f a 13 l w j i;have m:Xr _:=k;clear i k;go_enter func4,ntmps4;go_upto_region 2 with (go_at_call 7;refine Tr c.o ?_;rintro e t ⟨n,rfl,g⟩)
 have b:Xr _:=g.XQ;have d:Xr _:=(Rr 13 ⟨by decide,by decide⟩ Qn (by decide) j m.o g);clear g;obtain⟨p,q⟩:=n;go_wp2_with (go_at_call 6;refine Tr d.o ?_;rintro e u ⟨rfl,r⟩);go_ret;exact⟨rfl,(b.o.alloc _).trans r⟩
end Go.Proofs.YtnbhnocdhbcbcaaGreat
