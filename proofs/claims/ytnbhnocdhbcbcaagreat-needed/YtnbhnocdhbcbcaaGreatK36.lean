import Derived.OwnWalk
import Derived.Test.YtnbhnocdhbcbcaaGreatK32
import Derived.Test.YtnbhnocdhbcbcaaGreatK35
namespace Go.Proofs.YtnbhnocdhbcbcaaGreat
open Go.RowKit Tryz
open Value IntKind Ending
set_option maxHeartbeats 0
variable{k m z4:World}{t z7 y5:Hd}{I y9:Nat}{z5 y3 ya:Xt}{y6:List Bool}{yd:Fs}{y7:Nat×Nat->It}(D M:Nat)(L:Nat×Nat->It)(v:Mc)(y4:Hd)(s:List Tx)(g:Int)(o:Nat)(S:Fs)(zt:Hd)(i y l:Nat)(w:List St)(N:Nat->Hd)(T:Nat)(z3:Option Nat)(x:Xs)(H:List Rw)(z6:Nat)(y0:List kD)(d:Nat)(b:World)
theorem Bs(h:jB b i y w N T H) :
  Calls prog 100 #[pointer (some ⟨i,y,none⟩),int i64 l] b fun e g=>e=returned (bool (nP H l))/\g=b:=by
 have d:Xr _:=oq i y l w N T H b h;have c:Xr (nP H l=((eN H l==4)||(eN H l==5))):=rfl;clear h;generalize eN H l=v at *;cases f:(v==4)
 ·rw[f,U0]at c;go_enter func100,ntmps100;go_wp2_with (go_at_call 96;refine TM d.o ?_;rintro e j ⟨rfl,a⟩;rw[a]);go_ret;exact⟨aF c.o.symm,rfl⟩
 ·rw[f,VD]at c;go_enter func100,ntmps100;go_wp2_with (go_at_call 96;refine TM d.o ?_;rintro e j ⟨rfl,a⟩;rw[a]);go_ret;exact⟨aF c.o.symm,rfl⟩
theorem Nu(c:Pl)(b:List (Xs×Pl)):∀a,((dM w d c b a).2.1==0)=false->(dM w d c b a).1=[]:=by
 induction b with
 | nil =>
  intro a;rw[dM];split
  ·intro _;rfl
  ·intro h;cases h
 | cons x r e =>
  intro a;obtain⟨t,p⟩:=x;rw[dM];split
  ·exact e _
  ·split
   ·intro _;rfl
   ·exact e _
theorem P9(s:St):((dB w d s).2.1==0)=false->(dB w d s).1=[]:=by
 unfold dB;split
 ·unfold kQ mY;split
  ·split
   ·split
    ·intro _;rfl
    ·intro h;cases h
   ·intro _;rfl
  ·intro _;rfl
 ·exact Nu _ _ _ _ _
def vX(steps:List kD)(k:Nat):Xv:=(steps.take k).filterMap pI
theorem Kh(h:d<y0.length)(a:(y0[d].Yd==2)=true):vX y0 (d+1)=vX y0 d++[y0[d].XN]:=by
 unfold vX;rw[UD h,VN];congr 1;rw[Xe,List.filterMap_nil];unfold pI;rw[TJ a]
theorem Np(h:d<y0.length)(a:(y0[d].Yd==2)=false):vX y0 (d+1)=vX y0 d:=by
 unfold vX;rw[UD h,VN,Xe,List.filterMap_nil];unfold pI;rw[TH (by rw[a];simp),Uk]
set_option maxRecDepth 100000
theorem Ki(h:jB b i y w N T H)(ok:jV w)(hn:l<w.length)(D:rX w[l]) :
  Calls prog 138 #[pointer (some ⟨i,y,none⟩),int i64 l] b fun e w'=>∃g:Hd,e=returned (slice g.ao (o8 w l).length g.cap)/\ik b w' g (bE (o8 w l)):=by
 obtain⟨i0,hi,an,ap,ar⟩:=Ul xO;have M:Xr _:=Ag i y l w N b h.recd hn ok D;have ai:=(Gf w l ok hn D).len;have HB:Xr _:=P9 w l w[l];have V:Xr (o8 w l=(dB w l w[l]).1.filterMap pI):=cg (by unfold o8;rw[TF hn]);clear h D;generalize dB w l w[l]=PF at *;obtain⟨a,F,pp⟩:=PF;simp only at M ai HB V;go_enter func138,ntmps138;go_upto_region 3 with (go_at_call 101;refine TM M.o ?_;rintro e w3 ⟨g,rfl,B,ax,k3⟩;unfold iw)
 obtain⟨E,s⟩:∃E,E=w3.alloc (.cells #[int i64 F,string pp.Yi,int i64 pp.Yj,int i64 pp.Yk] 165):=⟨_,rfl⟩
 have k4:ae [] b E:=by rw[s];exact k3.alloc _
 have B9:E.heap[w3.heap.size]?=some (.cells (Dg (F,pp)) 165):=by rw[s];exact TN _ _
 have r:aB E g (gu a):=by rw[s];exact B.XX (fun x m=>(kr0.alloc _).block x (B.lt m) (by simp))
 rw[<-s];clear s B k3;have f0:E.cell? ⟨w3.heap.size,0,none⟩=some (int i64 F):=by rw[ah B9];rfl
 have J:Xr _:=k4;obtain⟨AO,G⟩:=bq (g.ao);rw[G.o];cases hz:(F==0)
 ·have I:Xr _:=HB.o hz;have al:(F != 0)=true:=by simp[bne,hz]
  go_wp2;go_ret;refine⟨⟨none,0⟩,?_,?_⟩
  ·rw[V.o,I.o];rfl
  ·rw[V.o,I.o];exact⟨TQ _ _ _ _,(by intro k hk;cases hk),J.o⟩
 ·have al:(F != 0)=false:=by simp[bne,hz]
  have ac:Xr _:=r;clear r HB k4;go_wp2
  go_loopg [5,8] a.length (fun gk sv a2 wr=>∃(k:Nat) (p:Hd) (d:Xv),k<=a.length/\gk=a.length-k/\sv=slice p.ao d.length p.cap/\a2=int i64 k/\d.length<=k/\Xr (d=vX a k)/\Xr (aB wr p (bE d))/\Xr (∀x,p.Yc=some x->b.heap.size<=x)/\Xr (ae [] b wr)/\Xr (aB wr g (gu a))/\Xr (∀x,p.Yc=some x->g.Yc≠some x))
  ·exact⟨0,⟨none,0⟩,[],by omega,rfl,rfl,rfl,TI _,rfl,TQ _ _ _ _,(by intro x m;cases m),J,ac,(by intro x m;cases m)⟩
  obtain⟨k,p,d,hk,aT,rfl,rfl,az,HA,W,U,HK,X,A⟩:=hrel;rcases kn k a.length with ⟨v,a0⟩ | ⟨v,a1⟩
  ·obtain⟨gp,ep,av,ad,d0,d1,-⟩:=X.o.step k v;obtain rfl:AO=some ⟨gp,0,none⟩:=G.o.symm.trans ep;clear ep;have HY:Xr _:=Kh a k v;have HX:Xr _:=Np a k v;generalize a[k]=o at *;cases hb:(o.Yd==2)
   ·have HT:Xr _:=HX.o hb;clear HX HY;go_wp2;go_roundg (a.length-(k+1))
    ·exact⟨k+1,p,d,by omega,rfl,rfl,by go_num,by omega,by show _=_;rw[HT.o];exact HA.o,W,U,HK,X,A⟩
    omega
   ·have HT:Xr _:=HY.o hb;have r:=W.o.XX (fun x m=>((ae.refl [] wr).alloc (.cells #[int i64 o.XN] 3)).block x (W.o.lt m) (by simp));have K:Xr (aB (wr.alloc (.cells #[int i64 o.XN] 3)) g (gu a)):=X.o.XX (fun x m=>((ae.refl [] wr).alloc _).block x (X.o.lt m) (by simp));have z:Xr (ae [] b (wr.alloc (.cells #[int i64 o.XN] 3))):=HK.o.alloc _;clear HX HY;go_wp2_with (at_builtin;refine aL _ rfl (.tmp 32) (.tmp 38) 24 rfl i0 (int i64 0) 8 p (bE d) underlying24 hi an ap ar rfl Ug rfl (by exact r) ⟨_,0,none⟩ 1 1 [int i64 o.XN] rfl rfl ?d1 ?d2 Ug ?d3 ?d4 ?_)
    case d1=>intro j u Y;match j,Y with | 0,Y=>simp at Y;subst Y;simp[Addr.add]
    case d2=>intro u hu;simp at hu;subst hu;rfl
    case d3=>simp only[bE];unfold maxLen;omega
    case d4=>simp only[bE];omega
    intro n f S C t c;have R:(wr.alloc (.cells #[int i64 o.XN] 3)).heap.size=wr.heap.size+1:=by simp
    replace c:p.Yc=some n∨(wr.alloc (.cells #[int i64 o.XN] 3)).heap.size<=n:=(by rw[R];exact c);rw[lZ d o.XN]at C;have P:=z.o.grown t U.o;have GT:bt (wr.alloc (.cells #[int i64 o.XN] 3)) S p ⟨some ⟨n,0,none⟩,f⟩:=bt.made t c;have Q:aB S g (gu a):=GT.beside K.o (fun q Z ag=>A.o q ag Z);have aS:b.heap.size<=n:=by
     rcases c with e | e
     ·exact U.o n e
     ·have:=z.o.size;omega
    have O:∀x,(⟨some ⟨n,0,none⟩,f⟩:Hd).Yc=some x->g.Yc≠some x:=fun x m Z=>by
     have e:n=x:=(by simpa [Hd.Yc] using m);subst e;rcases c with e | e
     ·exact A.o n e Z
     ·have:=K.o.lt Z;omega
    have af:Xr ((bE d).n+1=(d++[o.XN]).length):=cg (by simp[bE]);rw[af.o];have L:Xr (aB S ⟨some ⟨n,0,none⟩,f⟩ (bE (d++[o.XN]))/\ae [] b S/\aB S g (gu a)/\(∀x,(⟨some ⟨n,0,none⟩,f⟩:Hd).Yc=some x->g.Yc≠some x)/\(∀x,(⟨some ⟨n,0,none⟩,f⟩:Hd).Yc=some x->b.heap.size<=x)):=⟨C,P,Q,O,by intro x m;simp[Hd.Yc]at m;omega⟩;clear t c r C P Q O GT R;go_wp2;go_roundg (a.length-(k+1))
    ·exact⟨k+1,⟨some ⟨n,0,none⟩,f⟩,d++[o.XN],by omega,rfl,rfl,by go_num,by rw[TO];show _+1<=_;omega,by show _=_;rw[HT.o,<-HA.o],L.o.1,L.o.2.2.2.2,L.o.2.1,L.o.2.2.1,L.o.2.2.2.1⟩
    omega
  ·have I:Xr (d=o8 w l):=by
    show _=_;rw[HA.o,V.o];unfold vX;rw[Vt (by omega)]
   go_wp2;go_ret;exact⟨p,by rw[<-I.o];rfl,by rw[<-I.o];exact⟨W.o,U.o,HK.o⟩⟩
theorem PU{l:Xv}(h:aB k t (bE l))(d:I<l.length):∃g,t.ao=some ⟨g,0,none⟩/\g<k.heap.size/\k.cell? ⟨g,I,none⟩=some (int i64 (l[I]:Nat))/\l.length<=t.cap:=by
 rcases h.X9 with ⟨-,e,-⟩ | ⟨g,b,a,f,c,-⟩
 ·have e:l.length=0:=e;omega
 ·exact⟨g,a,h.lt (by unfold Hd.Yc;rw[a];rfl),h.cell a I _ (by simp[bE,kj,d]),c⟩
theorem BY(h:jB b i y w N T H)(ok:jV w)(ha:l<w.length)(F:∀n (A:n<w.length),rX w[n]) :
  Calls prog 97 #[pointer (some ⟨i,y,none⟩),int i64 l] b fun e I=>e=returned (slice (some ⟨b.heap.size,0,none⟩) w.length w.length)/\gU I b.heap.size (mF w H l)/\ae [] b I:=by
 have a4:=ok.len;obtain⟨i1,ax,a1,a2,a3⟩:=Ul Fv;have Y:Xr _:=eZ i y w N b h.recd;have m2:=fun b=>dF (P:=prog) b 134 4 i1 _ underlying134 ax a1 w.length 1 a2 (by rw[a3];omega) (by omega);obtain⟨V,O⟩:=bq (madeCells (bool false).cells (w.length*1));have K:Xr (V=((List.replicate w.length false).map bool).toArray):=cg (by rw[<-O.o,sS]);rw[O.o]at m2;have m3:=m2 b;obtain⟨W,HW⟩:=bq (b.alloc (.cells (V.setIfInBounds l (bool true)) 4));have v:gU (b.alloc (.cells V 4)) b.heap.size (List.replicate w.length false):=by
  unfold gU;rw[K.o];exact TN _ _
 have av:Xr (gU W b.heap.size ((List.replicate w.length false).set l true)):=by
  show gU _ _ _;unfold gU;rw[<-HW.o,K.o];refine(TN _ _).trans ?_;congr 2;rw[UH,VW]
 have af:Xr _:=fH HW.o;have Q:(b.alloc (.cells V 4)).cell? ⟨b.heap.size,l,none⟩=some (bool false):=v.cell l false (by rw[U4,TJ (by omega)]);have f0:=am v l;have z0:=aj v;have a6:(l:Int)<w.length:=by omega
 have bj:¬(l:Int)<0:=by omega
 have bg:¬w.length<=l:=by omega
 have ac:Xr (∀n s,ae [] b s->Calls prog 100 #[pointer (some ⟨i,y,none⟩),int i64 (n:Nat)] s fun e I=>e=returned (bool (nP H n))/\I=s):=fun n s k=>Bs i y n w N T H s (h.XR k);have an:Xr (∀n s,n<w.length->ae [] b s->Calls prog 138 #[pointer (some ⟨i,y,none⟩),int i64 (n:Nat)] s fun e I=>∃z:Hd,e=returned (slice z.ao (o8 w n).length z.cap)/\ik s I z (bE (o8 w n))):=fun n s A k=>Ki i y n w N T H s (h.XR k) ok A (F n A);have al:Xr (∀n,(o8 w n).length<=1100000):=fun n=>by
  unfold o8;by_cases A:n<w.length
  ·rw[TF A];have h1:=Wy pI (dB w n w[n]).1;have h2:=(Gf w n ok A (F n A)).len;simp only;omega
  ·rw[UA (by omega)];simp
 clear h F v m2;go_enter func97,ntmps97;go_upto_region 5 with (go_at_call 81;refine TM Y.o ?_;rintro e wc ⟨rfl,R⟩;rw[R];clear R)
 rw[HW.o];clear Q f0 z0 m3;go_wp2
 go_loopg [6] (l+1) (fun gk nv wr=>∃(k:Nat) (d:List Bool),k<=l+1/\gk=k/\nv=int i64 ((k:Int)-1)/\d.length=w.length/\Xr (lr w H k d=mF w H l)/\Xr (gU wr b.heap.size d)/\Xr (ae [] b wr))
 ·exact⟨l+1,_,TI _,rfl,by simp,by simp,rfl,av,af⟩
 obtain⟨k,d,hk,bc,rfl,E,U,f,G⟩:=hrel;cases k with
 | zero =>
  go_wp2;go_ret;exact⟨rfl,by rw[<-U.o];exact f.o,G.o⟩
 | succ k =>
  have az:(((k+1:Nat):Int)-1)=(k:Int):=by omega
  rw[az];have a7:(k:Int) ≥ 0:=by omega
  have aS:k<w.length:=by omega
  have bf:(k:Int)<w.length:=by omega
  have Q:=f.o.cell k (d.getD k false) (by rw[TG,TF (by omega)];rfl);have z0:=aj f.o;have c:Xr _:=ac.o k wr G.o;have j:Xr (¬(d.getD k false=true/\nP H k=true)->lr w H k d=mF w H l):=fun A=>by
   have:=U.o;rw[lr]at this;unfold mR at this;rw[TH A]at this;exact this
  cases hm:d.getD k false
  ·rw[hm]at Q j;have HS:Xr _:=(j.o (by simp));go_wp2;go_roundg k
   ·exact⟨k,d,by omega,rfl,by go_num,E,HS,f,G⟩
   omega
  ·rw[hm]at Q j;cases hp:nP H k
   ·rw[hp]at c j;have HS:Xr _:=(j.o (by simp));go_wp2_with (go_at_call 100;refine TM c.o ?_;rintro e wp ⟨rfl,r⟩;rw[r];clear r);go_roundg k
    ·exact⟨k,d,by omega,rfl,by go_num,E,HS,f,G⟩
    omega
   ·rw[hp]at c;have HM:Xr (lr w H k (qM d (o8 w k))=mF w H l):=by
     have:=U.o;rw[lr]at this;unfold mR at this;rw[TJ ⟨hm,hp⟩]at this;exact this
    have B:Xr _:=an.o k wr aS G.o;have a5:=al.o k;clear j U;(go_upto_region 9 with (go_at_call 100;refine TM c.o ?_;rintro e wp ⟨rfl,r⟩;rw[r];clear r));(go_upto_region 10 with (go_at_call 138;refine TM B.o ?_;rintro e w2 ⟨z,rfl,S⟩));have L:Xr (gU w2 b.heap.size d):=f.o.Yb S.Yb (by simp);have ad:Xr (ae [] b w2):=G.o.trans S.Yb;have ap:Xr (aB w2 z (bE (o8 w k))):=S.Ym;have Z:Xr (z.Yc≠some b.heap.size):=fun e=>by have:=S.far _ e;have:=aj f.o;omega
    clear S B c Q z0;obtain⟨AO,J⟩:=bq (z.ao);rw[J.o];generalize o8 w k=g at *;go_wp2
    go_loopg [8] g.length (fun gk iv wr=>∃(m:Nat) (a:List Bool),m<=g.length/\gk=g.length-m/\iv=int i64 m/\a.length=w.length/\Xr (qM a (g.drop m)=qM d g)/\Xr (gU wr b.heap.size a)/\Xr (aB wr z (bE g))/\Xr (ae [] b wr))
    ·exact⟨0,d,by omega,rfl,rfl,E,rfl,L,ap,ad⟩
    obtain⟨m,a,hi,ba,rfl,p,HD,o,u,C⟩:=hrel;rcases kn m g.length with ⟨D,bd⟩ | ⟨D,be⟩
    ·obtain⟨gp,ep,gz,d0,dc⟩:=PU u.o D;obtain rfl:AO=some ⟨gp,0,none⟩:=J.o.symm.trans ep;clear ep;have t:Xr (qM (qj a g[m]) (g.drop (m+1))=qM d g):=by
      have:=HD.o;rw[Uj D]at this;exact this
     generalize g[m]=x at *;have bk:(x:Int) ≥ 0:=by omega
     rcases kn x w.length with ⟨a0,aT⟩ | ⟨a0,aT⟩
     ·have c1:=o.o.cell x (a.getD x false) (by rw[TG,TF (by omega)];rfl);have f1:=am o.o x;have X:Xr (qj a x=a.set x true):=cg (by unfold qj;rw[TJ (by omega)]);rw[X.o]at t;have M:Xr (gU (wr.setCell ⟨b.heap.size,x,none⟩ (bool true)) b.heap.size (a.set x true)):=o.o.set x;have ag:Xr (ae [] b (wr.setCell ⟨b.heap.size,x,none⟩ (bool true))):=C.o.sr1 (TI _) _;have ar:Xr (aB (wr.setCell ⟨b.heap.size,x,none⟩ (bool true)) z (bE g)):=u.o.XX (fun q hq=>((ae.refl [b.heap.size] wr).sl1 _).block q (u.o.lt hq) (by simp;intro e;rw[e]at hq;exact Z.o hq));go_wp2;go_roundg (g.length-(m+1))
      ·exact⟨m+1,a.set x true,by omega,rfl,by go_num,by rw[Uz];exact p,t,M,ar,ag⟩
      omega
     ·have X:Xr (qj a x=a):=(by show _=_;unfold qj;rw[TH (by omega)]);rw[X.o]at t;go_wp2;go_roundg (g.length-(m+1))
      ·exact⟨m+1,a,by omega,rfl,by go_num,p,t,o,u,C⟩
      omega
    ·have HE:Xr (a=qM d g):=by
      have:=HD.o;rw[VX (by omega)]at this;exact this
     have ai:Xr (lr w H k a=mF w H l):=cg (by rw[HE.o];exact HM.o);go_wp2;go_roundg k
     ·exact⟨k,a,by omega,rfl,by go_num,p,ai,o,C⟩
     omega
set_option maxRecDepth 512
theorem we(X:Xt)(w:World)(r:aB w zt (aE X))(L:X.length<=100000) :
  Calls prog 99 #[slice zt.ao X.length zt.cap] w fun e B=>∃n:Option Nat,e=returned (slice (vl n) X.length X.length)/\qo B n X/\(∀q,n=some q->w.heap.size<=q)/\ae [] w B:=by
 obtain⟨I,A,s,j,t⟩:=Ul kg;by_cases k:X.length=0
 ·have G:X=[]:=Us k;have p:((X.length:Int)==0)=true:=by rw[k];rfl
  clear r;go_enter func99,ntmps99;go_wp2;go_ret;exact⟨none,by rw[k];rfl,⟨⟨fun _=>G,fun _=>rfl⟩,fun b e=>by cases e⟩,(fun q e=>by cases e),ae.refl _ _⟩
 ·have p:((X.length:Int)==0)=false:=by rw[Ui];omega
  have J:=fun w=>dF (P:=prog) w 61 9 I _ underlying61 A s X.length 1 j (by rw[t];omega) (by omega);obtain⟨d,a⟩:∃K,K=madeCells (string ⟨#[]⟩).cells (X.length*1):=⟨_,rfl⟩
  have C:d.size=X.length*1:=by rw[a,Vl]
  rw[<-a]at J;clear a;obtain⟨W,l⟩:=bq (w.alloc (.cells d 9));have m:=fH l.o;have z:=f9 l.o;have c:(prog.info? (aE X).e).map (·.size)=some (aE X).size:=by simp[aE,A,j]
  obtain⟨y,f,g,i,v⟩:=rr (P:=prog) W 61 61 3 w.heap.size X.length zt (aE X) d 9 underlying61 c z (r.XR m) C (fun u H=>by obtain⟨x,-,rfl⟩:=UT.1 H;rfl);have F:(Builtin.copy_ #[61,61] 3 #[slice (some ⟨w.heap.size,0,none⟩) X.length X.length,slice zt.ao X.length zt.cap]).run prog W=.ok (goInt X.length) y:=f;have D:Xr (qo y (some w.heap.size) X):=⟨⟨(fun e=>by cases e),fun e=>absurd (by rw[e];rfl) k⟩,fun b e=>by cases e;exact g⟩;have E:Xr (ae [] w y):=((m.mono (S':=[w.heap.size]) (by simp)).trans i).mono (by simp);clear r m z g i v C f c;go_enter func99,ntmps99;go_upto_region 4 with fail
  rw[l.o];go_wp2;go_ret;exact⟨some w.heap.size,rfl,D.o,(fun q e=>by cases e;exact TI _),E.o⟩
def GP(l:List St)(L:List Rw)(a k:Nat):Xt:=((List.range k).filter (R6 l L a)).map (qi l)
def Ch(l:List St)(L:List Rw)(a k:Nat):Xt:=((List.range k).filter (R8 l L a)).map (qi l)
theorem LC:GP w H z6 (d+1)=GP w H z6 d++(if R6 w H z6 d=true then [qi w d] else []):=by
 unfold GP;rw[fZ,Uu];split <;> rfl
theorem LD:Ch w H z6 (d+1)=Ch w H z6 d++(if R8 w H z6 d=true then [qi w d] else []):=by
 unfold Ch;rw[fZ,Uu];split <;> rfl
def Me(A B:Xt)(c:Int)(w:World)(e:Ending)(w':World):Prop:=∃b1 b2:Option Nat,e=returned (tuple #[slice (vl b1) A.length A.length,slice (vl b2) B.length B.length,int i64 c])/\qo w' b1 A/\qo w' b2 B/\(∀q,b1=some q->w.heap.size<=q)/\(∀q,b2=some q->w.heap.size<=q)/\(∀q,b1=some q->b2≠some q)/\ae [] w w'
section
attribute [local go_sem] vS
theorem Tc{a:Option Nat}(h:qo k a z5)(c:ae [] k m):qo m a z5:=⟨h.nil,fun b e=>c.get (h.Yc b e) (by simp)⟩
structure E3(w wr:World)(gm:Nat)(ms:List Bool)(h1 h2:Hd)(A B:Xt):Prop where
 a:ik w wr h1 (aE A)
 b:ik w wr h2 (aE B)
 ap:∀k,h1.Yc=some k->h2.Yc≠some k
 s:gU wr gm ms
 gw:w.heap.size<=gm
 f1:h1.Yc≠some gm
 f2:h2.Yc≠some gm
theorem E3.XR(u:E3 k m I y6 t z7 z5 y3)(c:ae [] m z4):E3 k z4 I y6 t z7 z5 y3 :=
 ⟨u.a.XR c,u.b.XR c,u.ap,u.s.Yb c (by simp),u.gw,u.f1,u.f2⟩
theorem E3.addA(u:E3 k m I y6 t y5 z5 ya)(g:bt m z4 t z7)(o:aB z4 z7 (aE y3)):E3 k z4 I y6 z7 y5 y3 ya:=by
 obtain⟨d,f,i⟩:=ik.two u.a u.b u.ap g o;have l:=aj u.s;refine⟨d,f,i,u.s.Yb g.Yb (fun h=>u.f1 (aQ h)),u.gw,fun e=>?_,u.f2⟩;rcases g.Yc with c | ⟨q,c,j⟩
 ·exact u.f1 (by rw[<-c];exact e)
 ·rw[e]at c;cases c;omega
theorem E3.addB(u:E3 k m I y6 t z7 z5 y3)(g:bt m z4 z7 y5)(o:aB z4 y5 (aE ya)):E3 k z4 I y6 t y5 z5 ya:=by
 obtain⟨j,l,n⟩:=ik.two u.b u.a (fun i f d=>u.ap i d f) g o;have p:=aj u.s;refine⟨l,j,fun i f d=>n i d f,u.s.Yb g.Yb (fun h=>u.f2 (aQ h)),u.gw,u.f1,fun e=>?_⟩;rcases g.Yc with c | ⟨q,c,d⟩
 ·exact u.f2 (by rw[<-c];exact e)
 ·rw[e]at c;cases c;omega
set_option maxRecDepth 100000
theorem KH(h:jB b i y w N T H)(ok:jV w)(ha:l<w.length)(ar:∀n (hn:n<w.length),rX w[n]) :
  Calls prog 66 #[pointer (some ⟨i,y,none⟩),int i64 l] b fun e w'=>if((eN H l==2)||(eN H l==3))=true then Me [] [] 9 b e w' else Me (pn w H l).1 (pn w H l).2 0 b e w':=by
 have a4:=ok.len;obtain⟨i0,hi,ac,ad,af⟩:=Ul kg;have HV:Xr _:=oq i y l w N T H b h;have aT:Xr _:=BY i y l w N T H b h ok ha ar;have HR:Xr _:=h;clear h ar;have hv:((eN H l==2)=true)∨((eN H l==2)=false/\(eN H l==3)=true)∨((eN H l==2)=false/\(eN H l==3)=false):=by
  cases (eN H l==2) <;> cases (eN H l==3) <;> simp
 obtain⟨v,Hv⟩:=bq (eN H l);rw[Hv.o]at HV hv ⊢;rcases hv with m | ⟨m,h3⟩ | ⟨m,h3⟩
 ·simp only[m,Bool.true_or,if_true];go_enter func66,ntmps66;go_wp2_with (go_at_call 96;refine TM HV.o ?_;rintro e w1 ⟨rfl,D⟩;rw[D];clear D);go_ret3;exact⟨none,none,rfl,⟨⟨fun _=>rfl,fun _=>rfl⟩,fun i e=>by cases e⟩,⟨⟨fun _=>rfl,fun _=>rfl⟩,fun i e=>by cases e⟩,(fun q e=>by cases e),(fun q e=>by cases e),(fun q e=>by cases e),ae.refl _ _⟩
 ·simp only[h3,Bool.or_true,if_true];go_enter func66,ntmps66;go_wp2_with (go_at_call 96;refine TM HV.o ?_;rintro e w1 ⟨rfl,D⟩;rw[D];clear D);go_ret3;exact⟨none,none,rfl,⟨⟨fun _=>rfl,fun _=>rfl⟩,fun i e=>by cases e⟩,⟨⟨fun _=>rfl,fun _=>rfl⟩,fun i e=>by cases e⟩,(fun q e=>by cases e),(fun q e=>by cases e),(fun q e=>by cases e),ae.refl _ _⟩
 ·simp only[m,h3,Bool.or_self,Bool.false_eq_true,if_false];go_enter func66,ntmps66;go_upto_region 5 with (go_at_call 96;refine TM HV.o ?_;rintro e w1 ⟨rfl,D⟩;rw[D];clear D)
  go_upto_region 6 with (go_at_call 97;refine TM aT.o ?_;rintro e w1 ⟨rfl,s1,S⟩)
  have aS:Xr ((mF w H l).length=w.length):=cg (by unfold mF;rw[KL,Uz,WN]);have a1:Xr (E3 b w1 b.heap.size (mF w H l) ⟨none,0⟩ ⟨none,0⟩ [] []):=⟨⟨TQ _ _ _ _,(by intro k hk;cases hk),S⟩,⟨TQ _ _ _ _,(by intro k hk;cases hk),S⟩,(by intro k hk;cases hk),s1,TI _,(by intro e;cases e),(by intro e;cases e)⟩;clear s1 S;go_wp2
  go_loopg [8,9,11] w.length (fun gk av bv nv wr=>∃(k:Nat) (F m:Hd) (A B:Xt),k<=w.length/\gk=w.length-k/\av=slice F.ao A.length F.cap/\bv=slice m.ao B.length m.cap/\nv=int i64 k/\(A.length<=k/\B.length<=k)/\Xr (A=GP w H l k)/\Xr (B=Ch w H l k)/\Xr (E3 b wr b.heap.size (mF w H l) F m A B))
  ·exact⟨0,⟨none,0⟩,⟨none,0⟩,[],[],by omega,rfl,rfl,rfl,rfl,⟨TI _,TI _⟩,rfl,rfl,a1⟩
  obtain⟨k,F,m,A,B,hk,a7,rfl,rfl,rfl,⟨a5,a6⟩,HA,X,R⟩:=hrel;rcases kn k w.length with ⟨V,ba⟩ | ⟨V,bc⟩
  ·have c0:=R.o.s.cell k ((mF w H l).getD k false) (by rw[TG,TF (by rw[aS.o];exact V)];rfl);have Z:Xr _:=LC w H l k;have M:Xr _:=LD w H l k;have L:Xr (R6 w H l k=((mF w H l).getD k false&&(eN H k==1))):=rfl;have r:Xr (R8 w H l k=((mF w H l).getD k false&&((eN H k==2)||(eN H k==3)))):=rfl;have Y:Xr (qi w k=w[k].Ye):=cg (by unfold qi;rw[TG,TF V];rfl);cases hm:(mF w H l).getD k false
   ·rw[hm]at c0;rw[hm,VJ]at L r;have E:Xr (A=GP w H l (k+1)):=cg (by rw[Z.o,L.o,TH (by simp),Uk];exact HA.o);have t:Xr (B=Ch w H l (k+1)):=cg (by rw[M.o,r.o,TH (by simp),Uk];exact X.o);go_wp2;go_roundg (w.length-(k+1))
    ·exact⟨k+1,F,m,A,B,by omega,rfl,rfl,rfl,by go_num,⟨by omega,by omega⟩,E,t,R⟩
    omega
   ·rw[hm]at c0;rw[hm,Vk]at L r;have ai:Xr _:=bF i y k w N wr (HR.o.XR R.o.a.Yb).recd V;have ap:Xr (∀wx,ae [] wr wx->Calls prog 96 #[pointer (some ⟨i,y,none⟩),int i64 k] wx fun e w'=>e=returned (int i64 (eN H k))/\w'=wx):=fun wx kx=>oq i y k w N T H wx (HR.o.XR (R.o.a.Yb.trans kx));(go_upto_region 11 with (go_at_call 98;refine TM ai.o ?_;rintro e J ⟨rfl,k5⟩;unfold fR));have U:Xr (E3 b J b.heap.size (mF w H l) F m A B):=R.o.XR k5;have G:Xr _:=ap.o J k5;clear c0 k5 ai ap R;generalize w[k].Ye=d at *;generalize eN H k=vk at *;cases e1:(vk==1)
    ·rw[e1]at L;have E:Xr (A=GP w H l (k+1)):=cg (by rw[Z.o,L.o,TH (by simp),Uk];exact HA.o);cases e2:(vk==2)
     ·cases e3:(vk==3)
      ·rw[e2,e3,Bool.or_self]at r;have t:Xr (B=Ch w H l (k+1)):=cg (by rw[M.o,r.o,TH (by simp),Uk];exact X.o);go_wp2_with (go_at_call 96;refine TM G.o ?_;rintro e K ⟨rfl,o⟩;rw[o];clear o);go_roundg (w.length-(k+1))
       ·exact⟨k+1,F,m,A,B,by omega,rfl,rfl,rfl,by go_num,⟨by omega,by omega⟩,E,t,U⟩
       omega
      ·rw[e3,WK]at r;have t:Xr (B++[d]=Ch w H l (k+1)):=cg (by rw[M.o,r.o,TJ rfl,Y.o,<-X.o]);have x:Xr (E3 b (J.alloc (.cells #[string d] 9)) b.heap.size (mF w H l) F m A B):=U.o.XR (kr0.alloc _);have z:=x.o.b.Ym;go_wp2_with (first | (go_at_call 96;refine TM G.o ?_;rintro e K ⟨rfl,o⟩;rw[o];clear o) | (at_builtin;refine aL _ rfl (.tmp 54) (.tmp 56) 61 rfl i0 (string ⟨#[]⟩) 16 m (aE B) underlying61 hi ac ad af rfl Ug rfl (by exact z) ⟨_,0,none⟩ 1 1 [string d] rfl rfl ?d1 ?d2 Ug ?d3 ?d4 ?_))
       case d1=>intro j u I;match j,I with | 0,I=>simp at I;subst I;simp[Addr.add]
       case d2=>intro u W;simp at W;subst W;rfl
       case d3=>simp only[aE];unfold maxLen;omega
       case d4=>simp only[aE];omega
       intro P f w7 p g a;have C:(J.alloc (.cells #[string d] 9)).heap.size=J.heap.size+1:=by simp
       replace a:m.Yc=some P∨(J.alloc (.cells #[string d] 9)).heap.size<=P:=(by rw[C];exact a);rw[dW B d]at p;have O:Xr _:=x.o.addB (bt.made (c:=f) g a) p;have Q:Xr ((aE B).n+1=(B++[d]).length):=cg (by simp[aE]);rw[Q.o];clear g a z p C;go_wp2;go_roundg (w.length-(k+1))
       ·exact⟨k+1,F,⟨some ⟨P,0,none⟩,f⟩,A,B++[d],by omega,rfl,rfl,rfl,by go_num,⟨by omega,by rw[TO];show _+1<=_;omega⟩,E,t,O⟩
       omega
     ·rw[e2,VD]at r;have t:Xr (B++[d]=Ch w H l (k+1)):=cg (by rw[M.o,r.o,TJ rfl,Y.o,<-X.o]);have x:Xr (E3 b (J.alloc (.cells #[string d] 9)) b.heap.size (mF w H l) F m A B):=U.o.XR (kr0.alloc _);have z:=x.o.b.Ym;go_wp2_with (first | (go_at_call 96;refine TM G.o ?_;rintro e K ⟨rfl,o⟩;rw[o];clear o) | (at_builtin;refine aL _ rfl (.tmp 54) (.tmp 56) 61 rfl i0 (string ⟨#[]⟩) 16 m (aE B) underlying61 hi ac ad af rfl Ug rfl (by exact z) ⟨_,0,none⟩ 1 1 [string d] rfl rfl ?d1 ?d2 Ug ?d3 ?d4 ?_))
      case d1=>intro j u I;match j,I with | 0,I=>simp at I;subst I;simp[Addr.add]
      case d2=>intro u W;simp at W;subst W;rfl
      case d3=>simp only[aE];unfold maxLen;omega
      case d4=>simp only[aE];omega
      intro P f w7 p g a;have C:(J.alloc (.cells #[string d] 9)).heap.size=J.heap.size+1:=by simp
      replace a:m.Yc=some P∨(J.alloc (.cells #[string d] 9)).heap.size<=P:=(by rw[C];exact a);rw[dW B d]at p;have O:Xr _:=x.o.addB (bt.made (c:=f) g a) p;have Q:Xr ((aE B).n+1=(B++[d]).length):=cg (by simp[aE]);rw[Q.o];clear g a z p C;go_wp2;go_roundg (w.length-(k+1))
      ·exact⟨k+1,F,⟨some ⟨P,0,none⟩,f⟩,A,B++[d],by omega,rfl,rfl,rfl,by go_num,⟨by omega,by rw[TO];show _+1<=_;omega⟩,E,t,O⟩
      omega
    ·have ev:vk=1:=(by simpa using e1);subst ev;have t:Xr (B=Ch w H l (k+1)):=cg (by rw[M.o,r.o,TH (by decide),Uk];exact X.o);have E:Xr (A++[d]=GP w H l (k+1)):=cg (by rw[Z.o,L.o,TJ (by decide),Y.o,<-HA.o]);have x:Xr (E3 b (J.alloc (.cells #[string d] 9)) b.heap.size (mF w H l) F m A B):=U.o.XR (kr0.alloc _);have z:=x.o.a.Ym;go_wp2_with (first | (go_at_call 96;refine TM G.o ?_;rintro e K ⟨rfl,o⟩;rw[o];clear o) | (at_builtin;refine aL _ rfl (.tmp 47) (.tmp 49) 61 rfl i0 (string ⟨#[]⟩) 16 F (aE A) underlying61 hi ac ad af rfl Ug rfl (by exact z) ⟨_,0,none⟩ 1 1 [string d] rfl rfl ?d1 ?d2 Ug ?d3 ?d4 ?_))
     case d1=>intro j u I;match j,I with | 0,I=>simp at I;subst I;simp[Addr.add]
     case d2=>intro u W;simp at W;subst W;rfl
     case d3=>simp only[aE];unfold maxLen;omega
     case d4=>simp only[aE];omega
     intro P f w7 p g a;have C:(J.alloc (.cells #[string d] 9)).heap.size=J.heap.size+1:=by simp
     replace a:F.Yc=some P∨(J.alloc (.cells #[string d] 9)).heap.size<=P:=(by rw[C];exact a);rw[dW A d]at p;have O:Xr _:=x.o.addA (bt.made (c:=f) g a) p;have Q:Xr ((aE A).n+1=(A++[d]).length):=cg (by simp[aE]);rw[Q.o];clear g a z p C;go_wp2;go_roundg (w.length-(k+1))
     ·exact⟨k+1,⟨some ⟨P,0,none⟩,f⟩,m,A++[d],B,by omega,rfl,rfl,rfl,by go_num,⟨by rw[TO];show _+1<=_;omega,by omega⟩,E,t,O⟩
     omega
  ·have e:k=w.length:=(by omega);subst e;have ax:Xr (A=(pn w H l).1):=HA.o;have az:Xr (B=(pn w H l).2):=X.o;have al:Xr _:=(we F A wr R.o.a.Ym (by omega));have an:Xr (∀K,ae [] wr K->Calls prog 99 #[slice m.ao B.length m.cap] K fun e w'=>∃bo:Option Nat,e=returned (slice (vl bo) B.length B.length)/\qo w' bo B/\(∀q,bo=some q->K.heap.size<=q)/\ae [] K w'):=fun K k6=>we m B K (R.o.b.Ym.XR k6) (by omega);have ag:Xr (ae [] b wr):=R.o.a.Yb;clear R HA X;go_wp2_with (first | (go_at_call 99;refine TM al.o ?_;rintro e K ⟨b1,rfl,x1,n1,S⟩;have a2:Xr (qo K b1 A/\(∀q,b1=some q->wr.heap.size<=q)/\ae [] wr K):=⟨x1,n1,S⟩;have a0:Xr _:=an.o K S;clear al an x1 n1 S) | (go_at_call 99;refine TM a0.o ?_;rintro e w7 ⟨b2,rfl,x2,n2,k2⟩));go_ret3;rw[<-ax.o,<-az.o];obtain⟨x1,n1,S⟩:=a2.o;have a3:=ag.o.size;have bd:=S.size;refine⟨b1,b2,rfl,(Tc x1 k2),x2,(fun q e=>TV a3 (n1 q e)),(fun q e=>by have:=n2 q e;omega),(fun q e e2=>?_),(ag.o.trans S).trans k2⟩;have h8:=n2 q e2;have h9:=aj (x1.Yc q e);omega
end
theorem nE.repAt{l:List St}{H:Nat->Hd}(h:nE k I yd l H y9):jB k I 10 l H y9 (bQ l l.length) :=
 ⟨h.recd,h.tellA.cell,h.tellA.arr⟩
theorem Jb(a:World)(k:ae [] b a):Me [] [] g b (returned (tuple #[slice none 0 0,slice none 0 0,int i64 g])) a :=
 ⟨none,none,rfl,⟨⟨fun _=>rfl,fun _=>rfl⟩,fun c e=>by cases e⟩,⟨⟨fun _=>rfl,fun _=>rfl⟩,fun c e=>by cases e⟩,(fun q e=>by cases e),(fun q e=>by cases e),(fun q e=>by cases e),k⟩
theorem GU(h:kC b o S) :
  Calls prog 43 #[pointer (some ⟨o,0,none⟩),string x] b fun e a=>Me [] [] 7 b e a:=by
 have c:Xr (Calls prog 60 #[pointer (some ⟨o,0,none⟩),string x] b fun e a=>e=returned (tuple #[int i64 0,int i64 7])/\ae [] b a):=by
  show Calls _ _ _ _ _;obtain⟨f,-⟩:=jt.cells h;clear h;go_enter func60,ntmps60;go_wp2;go_ret2;exact⟨rfl,ae.refl _ _⟩
 clear h;go_enter func43,ntmps43;go_wp2_with (go_at_call 60;refine TM c.o ?_;rintro e g ⟨rfl,d⟩);go_ret3;exact Jb 7 b _ d
def zj(l:List St)(lab:Xs):(Xt×Xt)×Int:=match iu l lab with
 | none=>(([],[]),8)
 | some n=>if((eN (bQ l l.length) n==2)||(eN (bQ l l.length) n==3))=true then(([],[]),9) else(pn l (bQ l l.length) n,0)
def uN(fs:Fs)(st:Option Nat)(lab:Xs):(Xt×Xt)×Int:=match st with
 | none=>(([],[]),7)
 | some k=>zj (bn fs k).2.2.Ya lab
theorem Me.base{c:Int}{e:Ending}(h:Me z5 y3 c m e z4)(a:ae [] k m):Me z5 y3 c k e z4:=by
 obtain⟨b,d,f,g,i,j,l,n,o⟩:=h;have:=a.size;exact⟨b,d,f,g,i,(fun q e=>by have:=j q e;omega),(fun q e=>by have:=l q e;omega),n,a.trans o⟩
theorem LJ(h:nE b o S w N T)(v:jV w)(g:∀n (u:n<w.length),rX w[n]) :
  Calls prog 43 #[pointer (some ⟨o,0,none⟩),string x] b fun e k=>Me (zj w x).1.1 (zj w x).1.2 (zj w x).2 b e k:=by
 have t:=v.len;have i:=LH o S w N T x b h (by omega);have s:=bO.lt (WO (WO (WO h.ver)));unfold zj;cases p:iu w x with
 | none =>
  rw[p]at i;have f:Xr _:=i;clear i h g;go_enter func43,ntmps43;go_wp2_with (go_at_call 60;refine TM f.o ?_;rintro e a ⟨rfl,d⟩);go_ret3;exact Jb 8 b _ d
 | some n =>
  rw[p]at i;obtain⟨u,J,-⟩:=C7 p;have f:Xr _:=i;have j:Xr (∀a,ae [] b a->Calls prog 66 #[pointer (some ⟨o,10,none⟩),int i64 n] a fun e k=>Me (if((eN (bQ w w.length) n==2)||(eN (bQ w w.length) n==3))=true then((([],[]),9):(Xt×Xt)×Int) else(pn w (bQ w w.length) n,0)).1.1 (if((eN (bQ w w.length) n==2)||(eN (bQ w w.length) n==3))=true then((([],[]),9):(Xt×Xt)×Int) else(pn w (bQ w w.length) n,0)).1.2 (if((eN (bQ w w.length) n==2)||(eN (bQ w w.length) n==3))=true then((([],[]),9):(Xt×Xt)×Int) else(pn w (bQ w w.length) n,0)).2 a e k):=fun a d=>by
   refine(KH o 10 n w N T (bQ w w.length) a (h.XR d).repAt v u g).mono (fun e k q=>?_);split at q
   ·next r=>rw[TJ r];exact q
   ·next r=>rw[TH r];exact q
  have y:Xr (∀a,ae [] b a->o<a.heap.size):=fun a d=>TP s d.size;clear i h g;simp only;generalize (if((eN (bQ w w.length) n==2)||(eN (bQ w w.length) n==3))=true then((([],[]),9):(Xt×Xt)×Int) else(pn w (bQ w w.length) n,0))=R at *;obtain⟨⟨A,B⟩,c⟩:=R;simp only at j ⊢;go_enter func43,ntmps43;go_upto_region 4 with (go_at_call 60;refine TM f.o ?_;rintro e a ⟨rfl,d⟩)
  have m:Xr _:=j.o a d;have l:Xr _:=d;clear d;go_wp2_with (go_at_call 66;refine TM m.o ?_;rintro e K ⟨z,C,rfl,D,E,F,G,H,I⟩);go_ret3;exact Me.base ⟨z,C,rfl,D,E,F,G,H,I⟩ l.o
theorem NJ(d:eu b o S l T z3)(a:∀j,j<S.length->(ak S j).size<=1024) :
  Calls prog 43 #[pointer (some ⟨o,0,none⟩),string x] b fun e f=>Me (uN S z3 x).1.1 (uN S z3 x).1.2 (uN S z3 x).2 b e f:=by
 have c:=d.s;cases z3 with
 | none=>exact GU o S x b c
 | some k =>
  obtain⟨-,H,g,r,-⟩:=c;exact LJ o S _ H g x b r (uq S a k).ok (uq S a k).prf
def QW(A B:Xt)(c:Int)(w:World)(e:Ending)(w':World):Prop:=∃h1 h2:Hd,e=returned (tuple #[slice h1.ao A.length h1.cap,slice h2.ao B.length h2.cap,int i64 c])/\ik w w' h1 (aE A)/\ik w w' h2 (aE B)
theorem Ja:QW [] [] g b (returned (tuple #[slice none 0 0,slice none 0 0,int i64 g])) b :=
 ⟨⟨none,0⟩,⟨none,0⟩,rfl,wM b [] rfl,wM b [] rfl⟩
theorem EG(c:Int)(g:(c != 0)=true)(w:World)(d:Calls prog 62 #[pointer (some ⟨T,0,none⟩),string x] w fun e b=>e=returned (tuple #[int i64 0,int i64 c])/\b=w) :
  Calls prog 44 #[pointer (some ⟨T,0,none⟩),string x] w fun e b=>QW [] [] c w e b:=by
 have f:Xr _:=d;clear d;go_enter func44,ntmps44;go_wp2_with (go_at_call 62;refine TM f.o ?_;rintro e i ⟨rfl,a⟩;rw[a];clear a);go_ret3;exact Ja c w
set_option maxRecDepth 100000
theorem OB(s:List Tk)(v:Xu)(Y:Nat)(S:List Sm)(u:Xu)(X:Nat)(V W:Value)(m:List (jP×Hd))(n:Xu)(J:Nat)(c:List il)(g:Xu)(E:Nat)(w:World)(hD:gy w l s v Y S u X)(B:OK w y l V W m n J c g E)(M:T<m.length)(p:T<c.length)(N:T<S.length)(ha:T<=10000)(A:∀j,j<=T->(aq S j).a<s.length)(C:∀t,t<=T->(g9 m t).1.st.length<=100000000/\∀i,i<(g9 m t).1.st.length->(bN (g9 m t).1.st i).ref<=(T:Int))(hA:Calls prog 62 #[pointer (some ⟨y,0,none⟩),string x] w fun e F=>e=returned (tuple #[int i64 T,int i64 0])/\F=w) :
  Calls prog 44 #[pointer (some ⟨y,0,none⟩),string x] w fun e F=>if(!(cM c T) && !((dV c T).XS==1))=true then QW [] [] 9 w e F else ∃b:List Bool,(∀k,b.getD k false=true ↔ eI m c T k)/\QW (Jp s S b (T+1)) (Cr s S c b (T+1)) 0 w e F:=by
 have G:Xr _:=hA;have f:Xr _:=Au y l T V W m n J c g E w B p;have q:Xr _:=v6 y l T s v Y S u X V W m n J c g E w hD B M p N ha A C;obtain⟨gr,z,ad,Z⟩:=B.r T _ (wT c T p);have c1:w.cell? ⟨gr,T*6+1,none⟩=some (int i64 (dV c T).XS):=Z 1 _ rfl;have d4:w.cell? ⟨y,4,none⟩=some (slice g c.length E):=by rw[ah B.d];rfl
 rw[z]at d4;have ac:(T:Int)<c.length:=by omega
 clear hA hD B A C Z z;obtain⟨sd,H⟩:=bq (cM c T);obtain⟨U,I⟩:=bq ((dV c T).XS);rw[H.o]at f ⊢;rw[I.o]at c1 ⊢;cases sd
 ·cases hv:(U==1)
  ·have O:(U != 1)=true:=(by simp[bne,hv]);simp only[Bool.not_false,Bool.and_self,if_true];go_enter func44,ntmps44;go_wp2_with (first | (go_at_call 62;refine TM G.o ?_;rintro e D ⟨rfl,a⟩;rw[a];clear a) | (go_at_call 67;refine TM f.o ?_;rintro e D ⟨rfl,a⟩;rw[a];clear a));go_ret3;exact Ja 9 w
  ·have O:(U != 1)=false:=(by simp[bne,hv]);simp only[Bool.not_false,Bool.not_true,Bool.and_false,Bool.false_eq_true,if_false];go_enter func44,ntmps44;(go_upto_region 7 with (first | (go_at_call 62;refine TM G.o ?_;rintro e D ⟨rfl,a⟩;rw[a];clear a) | (go_at_call 67;refine TM f.o ?_;rintro e D ⟨rfl,a⟩;rw[a];clear a)));go_wp2_with (go_at_call 68;refine TM q.o ?_;rintro e w2 ⟨b,K,L,P,rfl,Q,R⟩);go_ret3;exact⟨b,P,K,L,rfl,Q,R⟩
 ·simp only[Bool.not_true,Bool.false_and,Bool.false_eq_true,if_false];go_enter func44,ntmps44;go_upto_region 7 with (first | (go_at_call 62;refine TM G.o ?_;rintro e D ⟨rfl,a⟩;rw[a];clear a) | (go_at_call 67;refine TM f.o ?_;rintro e D ⟨rfl,a⟩;rw[a];clear a))
  go_wp2_with (go_at_call 68;refine TM q.o ?_;rintro e w2 ⟨b,K,L,P,rfl,Q,R⟩);go_ret3;exact⟨b,P,K,L,rfl,Q,R⟩
theorem E2.rf{T:List Tk}{f b:Nat}{m:Xu}{o:Nat}{l:Xu}{n:Nat}{d:List (jP×Hd)}{j:List il}(r:E2 k I yd t T y9 f b m o l n d z7 j y5)(v:T.length<=10000)(u:fn T){a c:Nat}(w:c<=a)(g:c<(aa T).length):(g9 d c).1.st.length<=100000000/\∀i,i<(g9 d c).1.st.length->(bN (g9 d c).1.st i).ref<=(a:Int):=by
 have B:(aa T).length<=T.length:=om _ _;have p:(g9 d c).1=nO (aa T) (DO T (aa T)) c:=by
  have:(d.map (·.1))[c]?=((List.range (aa T).length).map (nO (aa T) (DO T (aa T))))[c]?:=by rw[r.ps]
  rw[Uo,Uo,Vu g]at this;unfold g9;rw[TG];cases e:d[c]? with
  | none=>rw[e]at this;cases this
  | some x=>rw[e]at this;exact U5 this
 rw[p];unfold nO;split
 ·obtain⟨P,D⟩:=(dN T).s c g;obtain⟨y,-,A⟩:=sJ (T:=T) (S:=aa T) (a:=c) (by omega) u v (zl T (aa T) c) ((aq (aa T) c).z-1) (by omega);refine⟨A,fun i f=>?_⟩;rcases(y i f).X9 with e | ⟨e,-⟩ | ⟨q,⟨C,-⟩,e,-⟩
  all_goals
   show(bN (fB T (aa T) c _ _).st i).ref<=_
   rw[e];omega
 ·exact⟨by show(0:Nat)<=_;omega,fun i f=>by cases f⟩
theorem MH(hm:dG b o S zt l T z3)(N:∀k,z3=some k->k<S.length/\((fT S k).1==0)=true)(M:S.length<=4)(Q:∀j,j<S.length->(ak S j).size<=1024) :
  Calls prog 44 #[pointer (some ⟨o,0,none⟩),string x] b fun e A=>QW (uN S z3 x).1.1 (uN S z3 x).1.2 (uN S z3 x).2 b e A:=by
 have X:=hm.s;cases z3 with
 | none =>
  obtain⟨p2,p3,p4,r⟩:=X;exact EG o x 7 (by decide) b (CH o x _ p2 p3 p4 b r.d)
 | some k =>
  obtain⟨hk,h0⟩:=N k rfl;obtain⟨G,W,hO⟩:=Bn M Q hk h0;obtain⟨V,Z,cT,Y,cS,I,H,w,y,r⟩:=X;have J:=r.Yh.tell;have C:=aB.srcG (f:=kJ) r.s2 (fun _=>rfl);have hl:(aa (cG S k).1).length<=(cG S k).1.length:=om _ _;have c:=G.r.find J x;have B:=CG o x w y.ao y.cap _ _ _ b r.rv.d C (by rw[J.len];omega);show Calls _ _ _ _ fun e A=>QW (zj (bn S k).2.2.Ya x).1.1 (zj (bn S k).2.2.Ya x).1.2 (zj (bn S k).2.2.Ya x).2 b e A;unfold zj;cases K:iu (bn S k).2.2.Ya x with
  | none =>
   rw[K]at c;refine EG o x 8 (by decide) b (B.mono (fun e A q=>?_));obtain⟨v,z⟩:=q;rw[c]at v;exact⟨v,z⟩
  | some n =>
   rw[K]at c;obtain⟨g,hA,-⟩:=C7 K;have D:=G.r.hel.at_ g;have ac:I.length=(aa (cG S k).1).length:=by
    have:=congrArg List.length r.ps;rw[Uh,Uh,Vm]at this;exact this
   have hJ:OK b o V (slice zt.ao S.length zt.cap) (bool true) I H.ao H.cap w y.ao y.cap:=⟨r.rv.d,aB.srcG (f:=OL) r.s1 (fun _=>rfl),r.sq,C⟩;refine(OB o V (aw (aa (cG S k).1) n) x _ Z cT _ Y cS _ _ I H.ao H.cap w y.ao y.cap b r.db hJ (by omega) (by rw[J.len];exact D) D (by omega) (fun j hj=>(OH _ W G.u _ (TI _)).ok.a j (by omega)) (fun t ht=>r.rf W hO ht (by omega)) (B.mono (fun e A q=>?_))).mono (fun e A q=>?_)
   ·obtain⟨v,z⟩:=q;rw[c]at v;exact⟨v,z⟩
   ·have F:=G.r.rows G.f G.u G.p r.ps r.Yh n g;obtain⟨s,m,-⟩:=G.r.get g;obtain⟨O,-⟩:=G.r.rea G.f G.u G.p r.ps r.Yh g;have P:=O n g;have R:(dV w (aw (aa (cG S k).1) n)).XS=(fh (bn S k).2.2.Ya n).XS:=(by rw[F];rfl);have U:=tu (bn S k).2.2.Ya g;have i:(!(cM w (aw (aa (cG S k).1) n)) && !((dV w (aw (aa (cG S k).1) n)).XS==1))=((eN (bQ (bn S k).2.2.Ya (bn S k).2.2.Ya.length) n==2)||(eN (bQ (bn S k).2.2.Ya (bn S k).2.2.Ya.length) n==3)):=by
     obtain⟨-,k1,k2⟩:=ux m;have E:oC s.Yd=true:=by
      have:(bn S k).2.2.Ya[n]=s:=(by rw[TF g]at m;exact U5 m);rw[<-this];exact hA
     rw[<-P];unfold nP;rw[U,R,k2,k1];have:s.Yd=4∨s.Yd=5:=by
      unfold oC at E;simpa using E
     rcases this with e | e <;> rw[e] <;> simp
    simp only;rw[<-i];split at q
    ·next L=>rw[TJ L];exact q
    ·next L =>
     rw[TH L];obtain⟨ad,v,z⟩:=q;obtain⟨u1,u2⟩:=G.r.uses G.f G.u G.p r.ps r.Yh g v;rw[u1,u2]at z;exact z
theorem ox.move(s:ox k y7)(c g:Nat×Nat)(m:It)(e:y7 c=m):ox k (ed (ed y7 c SM) g m):=by
 have l:∀q b,q≠g->b∈(ed (ed y7 c SM) g m q).B->q≠c/\b∈(y7 q).B:=fun q b h a=>by
  rw[TA _ _ h]at a;by_cases f:q=c
  ·rw[f,bC]at a;cases a
  ·rw[TA _ _ f]at a;exact⟨f,a⟩
 refine⟨fun q=>?_,fun q i o b a d=>?_⟩
 ·by_cases h:q=g
  ·rw[h,bC,<-e];exact s.all c
  ·rw[TA _ _ h];by_cases d:q=c
   ·rw[d,bC];exact trivial
   ·rw[TA _ _ d];exact s.all q
 ·by_cases h:q=g
  ·obtain⟨f,j⟩:=l i b (fun x=>o (h.trans x.symm)) d;rw[h,bC,<-e]at a;exact s.far c i (Ne.symm f) b a j
  ·obtain⟨p,j⟩:=l q b h a;by_cases n:i=g
   ·rw[n,bC,<-e]at d;exact s.far q c p b j d
   ·obtain⟨f,r⟩:=l i b n d;exact s.far q i o b j r
theorem cJ.lay2{M:Mc}{c:List Tx}(h:cJ k I y7 M t c y9)(a b:It)(n:ae [] k m)(o:a.P m)(p:b.P m)(f:∀q,q∈a.B->k.heap.size<=q)(g:∀q,q∈b.B->k.heap.size<=q)(l:∀q,q∈a.B->q∉b.B):cJ m I (ed (ed y7 (12,c.length) a) (17,0) b) M t c y9 :=
 h.re (h.m.sep.put2 (12,c.length) (17,0) (bm (by decide)) a b (n.mono (by simp)) o p (fun q d=>TU (f q d)) (fun q d=>TU (g q d)) l) (fun j i r=>by rw[TA _ _ (bm (by omega)),TA _ _ (fun e=>by cases e;omega)])
theorem Mg(a:AL S):(uN S z3 x).1.1.length<=900000000/\(uN S z3 x).1.2.length<=900000000:=by
 unfold uN;cases z3 with
 | none=>exact⟨Up _,Up _⟩
 | some k =>
  have d:=(uq S a k).ok.len;unfold zj;simp only;cases iu (bn S k).2.2.Ya x with
  | none=>exact⟨Up _,Up _⟩
  | some n =>
   simp only;split
   ·exact⟨Up _,Up _⟩
   ·simp only[pn,List.length_map];have b:=Vh (R6 (bn S k).2.2.Ya (bQ (bn S k).2.2.Ya (bn S k).2.2.Ya.length) n) (List.range (bn S k).2.2.Ya.length);have c:=Vh (R8 (bn S k).2.2.Ya (bQ (bn S k).2.2.Ya (bn S k).2.2.Ya.length) n) (List.range (bn S k).2.2.Ya.length);rw[Vm]at b c;exact⟨by omega,by omega⟩
theorem EF(n:Fs)(hd:Hd)(lo hi K H:Nat)(r:Option Nat)(b:Xs)(w:World)(h:cJ w D L v y4 s M)(hN:M<=1073741825)(hn:s.length+2<=3*M)(V:oM w L v T z6 d n hd lo hi K H r) :
  Calls prog 20 #[pointer (some ⟨D,0,none⟩),pointer (some ⟨z6,0,none⟩),pointer (some ⟨d,0,none⟩),string b] w fun e w'=>CA D L v (s.length+2) M e w':=by
 have F:Xr _:=NJ z6 n lo hi r b w V.p V.ok;have E:Xr (∀u,ae [] w u->Calls prog 44 #[pointer (some ⟨d,0,none⟩),string b] u fun e w'=>QW (uN n r b).1.1 (uN n r b).1.2 (uN n r b).2 u e w'):=fun u k=>MH d n hd K H r b u (V.d.XR k) V.st V.le V.ok;have t:Xr _:=Mg n r b V.ok;have HM:Xr (cJ w D L v y4 s M):=h;generalize uN n r b=R at *;obtain⟨⟨A,B⟩,c⟩:=R;simp only at F E t;clear h V;go_enter func20,ntmps20;go_upto_region 2 with (go_at_call 43;refine TM F.o ?_;rintro e w1 ⟨l,f,rfl,x1,x2,n1,n2,n3,k1⟩)
 have U:Xr _:=k1;have C:Xr _:=(HM.o.lay2 (vf l A) (vf f B) k1 x1 x2 (fun q J=>n1 q (wL J)) (fun q J=>n2 q (wL J)) (fun q N g=>n3 q (wL N) (wL g)));clear x1 x2 n1 n2 n3 k1;go_upto_region 3 with (go_at_call 44;refine TM (E.o w1 U.o) ?_;rintro e u ⟨N,g,rfl,y1,Q⟩)
 have X:Xr _:=(C.o.lay (b8 g (aE B)) (a:=18) (c:=0) (TU (by decide)) Q.Yb Q.Ym (fun q J=>Q.far q (aQ J)));have x:Xr (ed (ed (ed L (12,s.length) (vf l A)) (17,0) (vf f B)) (18,0) (b8 g (aE B)) (12,s.length)=vf l A):=cg (by rw[TA _ _ (bm (by decide)),TA _ _ (bm (by decide)),bC]);have y:Xr (ed (ed (ed L (12,s.length) (vf l A)) (17,0) (vf f B)) (18,0) (b8 g (aE B)) (17,0)=vf f B):=cg (by rw[TA _ _ (bm (by decide)),bC]);have z:Xr (ed (ed (ed L (12,s.length) (vf l A)) (17,0) (vf f B)) (18,0) (b8 g (aE B)) (18,0)=b8 g (aE B)):=bC _ _ _;have S:Xr (∀j T,(0<j/\j<=10)∨(14<=j/\j<=16)->ed (ed (ed L (12,s.length) (vf l A)) (17,0) (vf f B)) (18,0) (b8 g (aE B)) (j,T)=L (j,T)):=fun j T I=>by rw[TA _ _ (bm (by omega)),TA _ _ (bm (by omega)),TA _ _ (bm (by omega))]
 generalize ed (ed (ed L (12,s.length) (vf l A)) (17,0) (vf f B)) (18,0) (b8 g (aE B))=I2 at *;have W:Xr _:=(zY D M I2 v y4 s l N A u X.o hN (by omega) x.o y1.Ym t.o.1);clear y1 Q C;obtain⟨rb,G⟩:=bq (vl f);rw[G.o];generalize vl l=ra at *;obtain⟨al,an⟩:=N;obtain⟨ad,af⟩:=g;go_upto_region 4 with (go_at_call 42;refine TM W.o ?_;rintro e w3 ⟨rfl,I3,v3,ag,i,O,q2,P⟩)
 have m:Xr _:=(zY D M _ _ ag i f ⟨ad,af⟩ B w3 (O.re (O.m.sep.move (17,0) (12,i.length) (vf f B) ((P 17 0 (TU (by decide))).trans y.o)) (fun j T I=>by rw[TA _ _ (fun e=>by cases e;omega),TA _ _ (bm (by omega))])) hN (by omega) (bC _ _ _) (by have:=O.m.sep.all (18,0);rw[P 18 0 (TU (by decide)),z.o]at this;exact this) t.o.2);rw[G.o]at m;have Y:Xr (i.length+1=s.length+2):=cg (by omega);have Z:Xr (∀j T,(0<j/\j<=10)∨(14<=j/\j<=16)->ed (ed I3 (17,0) SM) (12,i.length) (vf f B) (j,T)=L (j,T)):=fun j T I=>by rw[TA _ _ (bm (by omega)),TA _ _ (bm (by omega)),P j T (by omega)];exact S.o j T I
 clear O q2 P;go_wp2_with (go_at_call 42;refine TM m.o ?_;rintro e w4 ⟨rfl,I4,v4,ai,ac,r1,r2,r3⟩);go_ret;exact⟨rfl,I4,v4,ai,ac,r1,r2.trans Y.o,fun j T I=>(r3 j T (by omega)).trans (Z.o j T I)⟩
theorem OW(a:Xs)(w:World)(Q:World->Prop)(c:Calls prog 20 #[pointer (some ⟨y,0,none⟩),pointer (some ⟨l,0,none⟩),pointer (some ⟨T,0,none⟩),string x] w fun e b=>e=returned (bool true)/\Q b) :
  Calls prog 24 #[pointer (some ⟨y,0,none⟩),pointer (some ⟨l,0,none⟩),pointer (some ⟨T,0,none⟩),string x,string a,int i64 13] w fun e b=>e=returned (bool true)/\Q b:=by
 have d:Xr _:=c;clear c;go_enter func24,ntmps24;go_wp2_with (go_at_call 20;refine TM d.o ?_;rintro e g ⟨rfl,f⟩);go_ret;exact⟨rfl,f⟩
theorem RQ(C d:Int)(c t:Xs)(w:World)(h:cJ w D L v y4 s M)(hV:v.V.length≠0)(hA:rk g)(hN:M<=1073741824) :
  Calls prog 10 #[pointer (some ⟨D,0,none⟩),agg #[int i64 13,int i64 g,int i64 C,int i64 d,string c,string t]] w fun e j=>pZ D L M e j:=by
 obtain⟨W,Q⟩:=bq (w.alloc (.cells #[int i64 13,int i64 g,int i64 C,int i64 d,string c,string t] 28));obtain⟨K,J,af,y⟩:=h.m.boxed 13 g C d c t W Q.o;have HT:Xr (cJ W D L v y4 s M):=h.XR y;obtain⟨z,A,T,U,X,Y,B⟩:=du J;have Z:Xr _:=(lW D M L v 13 g C d c t W K (by omega));have HS:Xr (iq W D w.heap.size L v M 13 g C d c t):=⟨K,J⟩;have ad:=h.m.len.1;have l:Xr (∀F,Calls prog 13 #[int i64 g,int i64 v.V.length] F fun e j=>e=returned (int i64 (fw g v.V.length:Nat))/\j=F):=fun F=>fF g v.V.length F hA ⟨by omega,by omega⟩;have u:=hQ g v.V.length (by omega);obtain⟨i,Hi⟩:=bq (fw g v.V.length);rw[Hi.o]at l u;have ac:((v.V.length:Int)==0)=false:=Ui.2 (by omega);have ag:(i:Int)<(v.V.length:Int):=by omega
 clear h K J y;go_enter func10,ntmps10;go_upto_region 1 with fail
 rw[Q.o];go_upto_region 2 with (go_at_call 12;refine TM Z.o ?_;rintro e E ⟨rfl,O⟩)
 have a:Xr (iq E D w.heap.size L v M 13 g C d c t):=HS.o.XR O;have H:Xr (cJ E D L v y4 s M):=HT.o.XR O;clear z A T U X Y B O;obtain⟨z,A,-⟩:=du a.o.o;have B:=aj a.o.o;have I:E.cell? ⟨D,0,none⟩=some (slice v.hx.ao v.V.length v.hx.cap):=by rw[ah a.o.m.Yc];rfl
 go_upto_region 4 with fail
 go_quiet ((go_at_call 13;exact Um (l.o _)));go_upto_region 5 with fail
 obtain⟨k,f⟩:=bq (E.drewN nq);rw[f.o];have b:Xr (iq k D w.heap.size L v M 13 g C d c t):=a.o.XR (by rw[<-f.o];exact kr0.drewN nq);have p:Xr (cJ k D L v y4 s M):=H.o.XR (by rw[<-f.o];exact kr0.drewN nq);clear z A B I;obtain⟨z,A,T,U,X,Y,B⟩:=du b.o.o;obtain⟨x,m,fs,hd,lo,hi,P,N,st,g1,g2,r,⟨R,z1,d1⟩,S,z2,d2⟩:=b.o.m.ver u;have I:k.cell? ⟨D,0,none⟩=some (slice v.hx.ao v.V.length v.hx.cap):=by rw[ah b.o.m.Yc];rfl
 have c1:k.cell? ⟨D,1,none⟩=some (slice v.hm.ao v.V.length v.hm.cap):=by rw[ah b.o.m.Yc];rfl
 rw[R]at I;rw[S]at c1;have G:Xr (Calls prog 20 #[pointer (some ⟨D,0,none⟩),pointer (some ⟨x,0,none⟩),pointer (some ⟨m,0,none⟩),string c] k fun e j=>pZ D L M e j):=(EF D (M+1) L v y4 s i x m fs hd lo hi P N st c k p.o.more (by omega) (by have:=p.o.t.n;omega) r).mono (fun e j q=>CA.ms q);clear r R S;go_wp2_with (go_at_call 20;refine TM G.o ?_;rintro e w3 ⟨rfl,q1⟩);go_ret;exact⟨rfl,q1⟩
theorem Qr:xd (XT 13):=by
 rintro b N I M j c ⟨k,A,C,D,s,t⟩ w h p F H r;obtain⟨u,B,v,O,G,L⟩:=F;rcases H with e | ⟨e,d⟩
 ·replace e:k=13:=e;subst e;exact RQ b N I M j c A C D s t w h r u p
 ·replace e:k=19:=e;replace d:D=13:=d;subst e d;exact RT b N I M j c A C 13 s t w h r u B p (fun i x m z v J E l g K a y o f=>OW b x m a s y _ ((EF b (N+1) I M j c i x m z v J E l g K a y o.more (by omega) (by have:=o.t.n;omega) f).mono (fun e P q=>CA.ms q)))
theorem FS(f:Xu)(a:Nat)(l:List nD)(w:World)(j:l.length*64<=140737488351232)(i:mU w f l)(k:∀o∈l,zf o) :
  Calls prog 4 #[slice f l.length a] w fun e s=>e=returned (bool true)/\ae [] w s:=by
 have c:Xr _:=Nz f a 13 l w j i;have m:Xr _:=k;clear i k;go_enter func4,ntmps4;go_upto_region 2 with (go_at_call 7;refine TM c.o ?_;rintro e t ⟨n,rfl,g⟩)
 have b:Xr _:=g.Yb;have d:Xr _:=(RC 13 ⟨by decide,by decide⟩ Qr (by decide) j m.o g);clear g;obtain⟨p,q⟩:=n;go_wp2_with (go_at_call 6;refine TM d.o ?_;rintro e u ⟨rfl,r⟩);go_ret;exact⟨rfl,(b.o.alloc _).trans r⟩
end Go.Proofs.YtnbhnocdhbcbcaaGreat
