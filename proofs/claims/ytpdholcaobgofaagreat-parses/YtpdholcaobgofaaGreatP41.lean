import Derived.Test.YtpdholcaobgofaaGreatP40
namespace Go.Proofs.YtpdholcaobgofaaGreat
open Go.RowKit Tryz
open Value IntKind Ending
set_option maxHeartbeats 0
variable{l:Int×Xs->Prop}{H b:World}(w:Nat)
def QA(Q:Int×Xs->Prop)(w:World)(e:Ending)(w':World):Prop:=∃res,Q res/\FrM res.2 res.1 w e w'
theorem wM(c:Int)(h:l (c,[]))(k:aa [] H b):QA l H (returned (tuple #[slice none 0 0,int i64 c])) b:=⟨(c,[]),h,⟨none,0⟩,rfl,(VT b [] rfl).base k⟩
theorem za5{L:Xs}{h':Hd}(h:l (0,L))(x:iG H b h' (aE L)):QA l H (returned (tuple #[slice h'.ao L.length h'.cap,int i64 0])) b:=⟨(0,L),h,h',rfl,x⟩
theorem Dg(d a:Xr)(c:Int)(l:(c != 0)=true)(f:World)(Q:Int×Xs->Prop)(k:Q (c,[]))(i:Calls prog 60 #[pointer (some ⟨w,0,none⟩),string d] f fun e g=>e=returned (tuple #[int i64 0,int i64 c])/\g=f) :
  Calls prog 46 #[pointer (some ⟨w,0,none⟩),string d,string a] f fun e g=>QA Q f e g:=by
 have j:Xq _:=i;clear i;go_enter func46,ntmps46;go_wp2_with (go_at_call 60;refine Xx j.o ?_;rintro e m ⟨rfl,b⟩;rw[b];clear b);go_ret2;exact wM c k (aa.refl _ _)
set_option maxRecDepth 100000
theorem OP(b a:Nat)(av c:Xr)(T:List Tk)(Q:Xt)(cT:Nat)(S:List Sm)(O:Xt)(cS:Nat)(x0 x1 x3 x4:Value)(u:World)(hd:u.heap[w]?=some (.cells #[x0,x1,pointer (some ⟨b,0,none⟩),x3,x4] 85))(hD:gM u b T Q cT S O cS)(ok:pE T S a)(hB:CB T S a)(an:a<S.length)(hE:dA T (ay S a).h)(ap:0<(aU T S a).length)(aq:∀P∈tw T S a,ki P)(hA:Calls prog 60 #[pointer (some ⟨w,0,none⟩),string av] u fun e s=>e=returned (tuple #[int i64 a,int i64 0])/\s=u) :
  Calls prog 46 #[pointer (some ⟨w,0,none⟩),string av,string c] u fun e s=>QA (BO ((aU T S a).drop 1) (tw T S a) c) u e s:=by
 have HA:Xq _:=hA;have K:Xq (Calls prog 71 #[pointer (some ⟨b,0,none⟩),int i64 a] u fun e s=>∃J,e=returned (slice J.ao (aU T S a).length J.cap)/\xf u s J (aU T S a)):=by
  have:=jI b a T Q cT S O cS u hD an ok.ok.t (by rw[bA];exact hE);rw[bA]at this;exact this
 have ad:Xq ((aU T S a).length<=101->∀j,aa [] u j->Calls prog 72 #[pointer (some ⟨b,0,none⟩),int i64 a] j fun e s=>Xp (tw T S a) ((aU T S a).drop 1) j e s):=fun p j k=>Tm b a T Q cT S O cS j (hD.Zbj k) ok hB an hE ap p aq;have W:Xq (∀j,aa [] u j->j.cell? ⟨w,2,none⟩=some (pointer (some ⟨b,0,none⟩))/\w<j.heap.size):=fun j k=>by
  have B:=k.get hd (by simp);exact⟨by rw[ab B];rfl,ah B⟩
 obtain⟨d2,a5⟩:=W.o u (aa.refl _ _);have be:(aU T S a).length<=10000:=XF (jO T _) ok.tm;obtain⟨M,Y⟩:∃M,Xq ((aU T S a).length=M+1):=⟨(aU T S a).length-1,by show _=_;omega⟩
 have bg:((aU T S a).length:Int)-1=(M:Int):=by rw[Y.o];omega
 have i:Xq (((aU T S a).drop 1).length=M):=cm (by rw[Ym,Y.o];omega);have ba:=Y;have bc:M<=10000:=by have:=Y.o;omega
 generalize aU T S a=B at *;generalize tw T S a=PP at *;generalize B.drop 1=f at *;clear hA hd hD ok hB hE aq ap;by_cases R:10<M
 ·have am:(M:Int) > 10:=by omega
  have HR:Xq (BO f PP c (3,[])):=by show BO _ _ _ _;unfold BO;rw[XA (by rw[i.o];exact R)]
  go_enter func46,ntmps46;go_wp2_with (first | (go_at_call 60;refine Xx HA.o ?_;rintro e w1 ⟨rfl,v⟩;rw[v];clear v) | (go_at_call 71;refine Xx K.o ?_;rintro e2 w2 ⟨h2,rfl,V⟩));go_ret2;exact wM 3 HR.o V.Zbw
 ·have am:¬(M:Int) > 10:=by omega
  have a6:¬10<M:=R;have ai:Xq (∀n,sF f PP c n->BO f PP c n):=fun n q=>by unfold BO;rw[Xz (by rw[i.o];exact R)];exact q
  have HN:Xq _:=(ad.o (by have:=Y.o;omega));clear ad;go_enter func46,ntmps46;go_upto_region 5 with (first | (go_at_call 60;refine Xx HA.o ?_;rintro e w1 ⟨rfl,v⟩;rw[v];clear v) | (go_at_call 71;refine Xx K.o ?_;rintro e2 w2 ⟨h2,rfl,V⟩))
  obtain⟨d3,a4⟩:=W.o w2 V.Zbw;have ac:Xq _:=HN.o w2 V.Zbw;have ax:Xq _:=V.Zbw;obtain⟨bd,bf⟩:=h2;clear d2 a5 V HN K HA;go_upto_region 8 with (go_at_call 72;refine Xx ac.o ?_;rintro e3 w3 ⟨U,l,hp,hx,hc,hn,d,rb,G,rfl,a0,m,k3⟩)
  have az:Xq _:=ax.o.trans k3;subst a0;have I:M<f.length+1:=by rw[i.o];omega
  obtain⟨r,hr⟩:=MO m.is c;have al:Xq (Calls prog 73 #[pointer (some ⟨U,0,none⟩),string c,int i64 0,int i64 M] w3 fun e s=>e=returned (int i64 (CG d G c 0 M))/\aa [] w3 s):=vy U l hp hx hc hn f d rb G c 0 M w3 m.at_ m.ht m.hcl (by omega) I;have D:Xq (CG d G c 0 M=1->∀j,aa [] w3 j->Calls prog 74 #[pointer (some ⟨U,0,none⟩),string c,int i64 0,int i64 M] j fun e s=>e=returned (int i64 (IU (pJ f (cY l) (CG d G) r c 0 M).length))/\aa [] j s):=fun p j k=>OY U l hp hx hc hn f d rb G r c 0 M j (m.Zbj k) (by omega) I p (by have:=hr (by rw[i.o];exact p);rw[i.o]at this;exact this);have F:Xq (CG d G c 0 M=1->¬64<(pJ f (cY l) (CG d G) r c 0 M).length->∀j,aa [] w3 j->Calls prog 75 #[pointer (some ⟨U,0,none⟩),string c,int i64 0,int i64 M] j fun e s=>∃J,e=returned (slice J.ao (pJ f (cY l) (CG d G) r c 0 M).length J.cap)/\iG j s J (aE (pJ f (cY l) (CG d G) r c 0 M))):=fun p H j k=>E4 U l hp hx hc hn f d rb G r c 0 M j (m.Zbj k) (by omega) I p (by have:=hr (by rw[i.o];exact p);rw[i.o]at this;exact this) (by omega);have HP:Xq (∀n,n=wH f (cY l) (CG d G) r c->BO f (cY l) c n):=fun n e=>ai.o n ⟨CG d G,r,m.is,hr,e⟩;have x:Xq (CG d G c 0 M=0->BO f (cY l) c (10,[])):=fun h=>HP.o _ (by unfold wH;rw[i.o,XA h]);have z:Xq (¬CG d G c 0 M=0->¬CG d G c 0 M=1->BO f (cY l) c (11,[])):=fun h g=>HP.o _ (by unfold wH;rw[i.o,Xz h,Xz g]);have A:Xq (CG d G c 0 M=1->64<(pJ f (cY l) (CG d G) r c 0 M).length->BO f (cY l) c (3,[])):=fun h g=>HP.o _ (by unfold wH;rw[i.o,Xz (by omega),XA h,XA g]);have y:Xq (CG d G c 0 M=1->¬64<(pJ f (cY l) (CG d G) r c 0 M).length->BO f (cY l) c (0,pJ f (cY l) (CG d G) r c 0 M)):=fun h g=>HP.o _ (by unfold wH;rw[i.o,Xz (by omega),XA h,Xz g]);generalize pJ f (cY l) (CG d G) r c 0 M=Z at *;generalize CG d G c 0 M=t at *;clear hr HP ai m k3 ac I;go_upto_region 9 with (go_at_call 73;refine Xx al.o ?_;rintro e4 w4 ⟨rfl,k4⟩)
  have X:Xq _:=k4;have E:Xq _:=az.o.trans k4;clear k4 al d3 a4;by_cases h0:t=0
  ·have N:Xq (BO f (cY l) c (10,[])):=x.o h0;have ar:(t:Int)=0:=(by omega);clear h0 x y z A D F;go_wp2;go_ret2;exact wM 10 N.o E.o
  ·have a3:((t:Int)==0)=false:=X6.2 (by omega);by_cases p:t=1
   ·have C:Xq _:=D.o p w4 X.o;have ag:Xq _:=A.o p;have af:Xq _:=y.o p;have aS:Xq _:=F.o p;have ar:(t:Int)=1:=(by omega);clear h0 a3 p x y z A D F;by_cases H:64<Z.length
    ·have N:Xq (BO f (cY l) c (3,[])):=ag.o H;have L:Xq (IU Z.length=65):=cm (by unfold IU;rw[Xz (by omega)]);rw[L.o]at C;go_wp2_with (go_at_call 74;refine Xx C.o ?_;rintro e5 w5 ⟨rfl,k5⟩);go_ret2;exact wM 3 N.o (E.o.trans k5)
    ·have N:Xq (BO f (cY l) c (0,Z)):=af.o H;have aT:Xq _:=aS.o H;have L:Xq (IU Z.length=Z.length):=cm (by unfold IU;rw[XA (by omega)]);rw[L.o]at C;have a7:¬(Z.length:Int) > 64:=(by omega);go_wp2_with (first | (go_at_call 74;refine Xx C.o ?_;rintro e5 w5 ⟨rfl,k5⟩) | (go_at_call 75;refine Xx (aT.o w5 (X.o.trans k5)) ?_;rintro e6 w6 ⟨⟨a1,a2⟩,rfl,x6⟩));go_ret2;exact za5 (h':=⟨a1,a2⟩) N.o (x6.base (E.o.trans k5))
   ·have N:Xq (BO f (cY l) c (11,[])):=z.o h0 p;have ar:(t:Int) > 1:=(by omega);clear h0 p x y z A D F;go_wp2;go_ret2;exact wM 11 N.o E.o
theorem NS(l:Fs)(h:Hd)(lo X:Nat)(A:Option Nat)(g a:Xr)(m:World)(Z:dY m w l h lo X A)(F:∀k,A=some k->k<l.length/\((gO l k).1==0)=true)(E:l.length<=4)(H:∀j,j<l.length->(ak l j).size<=1024) :
  Calls prog 46 #[pointer (some ⟨w,0,none⟩),string g,string a] m fun e B=>QA (yQ l A g a) m e B:=by
 have O:=Z.s;cases A with
 | none =>
  obtain⟨p2,p3,p4,r⟩:=O;exact Dg w g a 7 (by decide) m (yQ l none g a) rfl (QL w g _ p2 p3 p4 m r.d)
 | some k =>
  obtain⟨Y,V⟩:=F k rfl;obtain⟨G,W,hO⟩:=Et E H Y V;obtain⟨b,S,U,R,T,PS,h1,Q,K,r⟩:=O;have M:=r.ZbC.tell;have D:=aD.srcG (f:=lZ) r.s2 (fun _=>rfl);have hl:(aj (dd l k).1).length<=(dd l k).1.length:=t8 _ _;have i:=G.r.find M g;have t:=QK w g Q K.ao K.cap _ _ _ m r.rv.d D (by rw[M.len];omega);cases v:lH (cK l k).2.2.Zbv g with
  | none =>
   rw[v]at i;refine Dg w g a 8 (by decide) m (yQ l (some k) g a) ?_ (t.mono (fun e B q=>?_))
   ·show qr _ _ _ _;unfold qr;rw[v]
   ·obtain⟨p,z⟩:=q;rw[i]at p;exact⟨p,z⟩
  | some n =>
   rw[v]at i;obtain⟨y,C,-⟩:=Gr v;have o:=G.r.hel.at_ y;obtain⟨I,-,o3⟩:=G.r.one y;have x:aG (ay (aj (dd l k).1) (bF (aj (dd l k).1) n)).k=true:=by
    rw[gW y]at I;unfold sU at C;unfold aG;unfold fC at I;rcases I with ⟨q,e⟩ | ⟨q,e⟩ | ⟨q,e⟩ | ⟨q,e⟩ | ⟨q,e⟩ | ⟨q,e⟩ | ⟨q,e⟩ <;> rw[e]at C <;> first | (rw[q];rfl) | exact absurd C (by decide)
   have L:=WW (fJ (dd l k).1) G.u _ (Xy _);refine(OP w b (bF (aj (dd l k).1) n) g a _ S U _ R T _ _ _ _ m r.rv.d r.db (Um _ W G.u _ (by omega)) (fun j hj=>L j (by omega)) o (um (rK (fJ _) G.u _ o (DZ x))) (L _ o (by rw[x];rfl)).1 (fun P N=>?_) (t.mono (fun e B q=>?_))).mono (fun e B q=>?_)
   ·rw[<-G.r.prds G.f G.c y]at N;exact E1 G.f P N
   ·obtain⟨p,z⟩:=q;rw[i]at p;exact⟨p,z⟩
   ·obtain⟨J,p,z⟩:=q;refine⟨J,?_,z⟩;show qr _ _ _ _;unfold qr;rw[v];simp only;rw[o3,G.r.prds G.f G.c y];exact p
end Go.Proofs.YtpdholcaobgofaaGreat
