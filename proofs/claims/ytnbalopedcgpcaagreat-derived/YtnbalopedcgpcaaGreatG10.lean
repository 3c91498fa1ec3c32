import Derived.Deep.RegionHeld3
import Derived.BigQuiet
import Derived.Test.YtnbalopedcgpcaaGreatG09
namespace Go.Proofs.YtnbalopedcgpcaaGreat
open Go.RowKit Tryz
open Value renaming int->Xx,string->Xy,pointer->XA,agg->XB,bool->XC
open Obj renaming cells->XE
open IntKind renaming i64->XF
open Ending renaming returned->XH
open World renaming cell?->XI
open Option renaming none->XJ,some->XK
open Bool renaming true->XL,false->XM
open Go.RowKit renaming Hid->XN
open Go renaming Calls->XO,World->XP,Value->XQ
set_option maxHeartbeats 0
variable{T d D:XP}{n k z7 g y5:Nat}{L z4:List XQ}{I:Db}{y v y1:Nat->Hd}{y2:List Nat}{y3:Fs}{y4:List Bool}{z8 y0:ByteArray}(i a N x l S H:Nat)(b:Fs)(o:List XQ)(f:List Bool)(z5 M:ByteArray)(z6:XP)(y7 y8 y9 ya:XQ)(m:Nat)
theorem jA(r l c:Int)(f:Bool)(w:XP) :
  XO prog 138 #[XB #[Xy z5,Xx XF r,XC f,Xy M,Xx XF l,Xx XF c]] w fun e a=>e=XH (XB #[Xx XF (if f=XL then 7 else r),Xy M,Xx XF l,Xx XF c])/\aa [] w a:=by
 cases f
 ·go_enter func138,ntmps138;go_wp2;exact Qg (v:=XB #[Xx XF r,Xy M,Xx XF l,Xx XF c]) (by simp[results,results138,go_sem]) rfl ⟨rfl,((aa.refl _ _).alloc _).alloc _⟩
 ·go_enter func138,ntmps138;go_wp2;exact Qg (v:=XB #[Xx XF 7,Xy M,Xx XF l,Xx XF c]) (by simp[results,results138,go_sem]) rfl ⟨rfl,((aa.refl _ _).alloc _).alloc _⟩
def dm(v:Nat)(bg:List Bool):List XQ:=XA (XK ⟨v,0,XJ⟩) :: bg.map XC
theorem fY(h:f.length=4):(dm H f).length=5:=by simp[dm,h]
theorem aO.pre(h:aO T n k L z4 I y)(i:Nat)(b:i<L.length)(u:XQ) :
  aO (T.setCell ⟨n,i,XJ⟩ u) n k (L.set i u) z4 I y/\aj n T y (T.setCell ⟨n,i,XJ⟩ u) y:=by
 refine⟨⟨?_,?_,h.apart,h.off⟩,(dA.refl _ _).setCell (P0 (P0 rfl)) _,fun _ a=>P0 a⟩
 ·rw[af h.blk,QQ,So _ _ b]
 ·intro j;refine(h.own j).Uw (fun c a=>P9 _ _ _ _ ?_);rintro rfl;exact h.off j a
theorem aO.preCell(h:aO T n k L z4 I y)(i:Nat)(a:i<L.length):XI T ⟨n,i,XJ⟩=L[i]?:=by
 rw[ab h.blk];simp[List.getElem?_append_left a]
def eo(b sp:Nat)(w:XP)(H:Nat->Hd)(w':XP)(H':Nat->Hd):Prop :=
 dA (fun k=>k=b∨k=sp∨cD H k) w w'/\∀k,cD H' k->cD H k∨w.heap.size<=k
theorem aj.Uw{w':XP}(t:aj n T y w' v):eo n m T y w' v :=
 ⟨⟨t.1.os,t.1.tape,t.1.output,t.1.size,fun k a b=>t.1.block k a (fun e=>b (e.elim P0 (fun e=>P7 (P7 e))))⟩,t.2⟩
theorem eo.trans{w1:XP}(a:eo n k T y w1 v)(c:eo n k w1 v d y1):eo n k T y d y1:=by
 refine⟨⟨c.1.os.trans a.1.os,c.1.tape.trans a.1.tape,c.1.output.trans a.1.output,Qk a.1.size c.1.size,?_⟩,?_⟩
 ·intro b f g;rw[<-a.1.block b f g];refine c.1.block b (PY f a.1.size) ?_;rintro (e | e | i)
  ·exact g (P0 e)
  ·exact g (P7 (P0 e))
  ·rcases a.2 b i with h | h
   ·exact g (P7 (P7 h))
   ·omega
 ·intro b f;rcases c.2 b f with h | h
  ·exact a.2 b h
  ·exact P7 (Qk a.1.size h)
theorem eo.refl(a:Nat->Hd):eo S H z6 a z6 a:=⟨dA.refl _ _,fun _ b=>P0 b⟩
theorem eo.Ur(a:eo n k T y d v)(c:aa [] d D):eo n k T y D v :=
 a.trans ⟨c.toP (by simp),fun _ b=>P0 b⟩
theorem eo.first(c:aa [] T d)(a:eo n k d y D v):eo n k T y D v :=
 eo.trans ⟨c.toP (by simp),fun _ b=>P0 b⟩ a
theorem eo.scan(a:eo n k T y d v)(c:aa [k] d D):eo n k T y D v :=
 a.trans ⟨c.toP (by intro e b _;simp at b;exact P7 (P0 b)),fun _ b=>P0 b⟩
theorem eo.beyond(a:eo n k T y d v)(b:aa y2 d D)(e:∀x,x∈y2->T.heap.size<=x):eo n k T y D v :=
 ⟨⟨b.os.trans a.1.os,b.tape.trans a.1.tape,b.output.trans a.1.output,Qk a.1.size b.size,fun i c g=>by
  rw[<-a.1.block i c g];exact b.block i (PY c a.1.size) (fun f=>by have:=e i f;omega)⟩,a.2⟩
theorem eo.fresh(a:eo n k T y d v)(F:Nat)(e:F<T.heap.size)(b:¬cD y F):¬cD v F:=by
 intro c;rcases a.2 F c with h | h
 ·exact b h
 ·omega
theorem aj.fresh(a:aj n T y d v)(F:Nat)(e:F<T.heap.size)(b:¬cD y F):¬cD v F:=by
 intro c;rcases a.2 F c with h | h
 ·exact b h
 ·omega
theorem fS{w:XP}{r:Nat}:aa [r] w ((((w.setCell ⟨r,0,XJ⟩ y7).setCell ⟨r,1,XJ⟩ y8).setCell ⟨r,2,XJ⟩ y9).setCell ⟨r,3,XJ⟩ ya) :=
 ((((aa.refl _ _).setCell (P0 (by simp)) _).setCell (P0 (by simp)) _).setCell (P0 (by simp)) _).setCell (P0 (by simp)) _
theorem oi(a b:XQ):aa [n] T ((((((T.setCell ⟨n,0,XJ⟩ y7).setCell ⟨n,1,XJ⟩ y8).setCell ⟨n,2,XJ⟩ y9).setCell ⟨n,3,XJ⟩ ya).setCell ⟨n,4,XJ⟩ a).setCell ⟨n,5,XJ⟩ b) :=
 ((((((aa.refl _ _).setCell (P0 (by simp)) _).setCell (P0 (by simp)) _).setCell (P0 (by simp)) _).setCell (P0 (by simp)) _).setCell (P0 (by simp)) _).setCell (P0 (by simp)) _
def bb:Array XQ:=#[Xx XF 0,Xy ⟨#[]⟩,Xx XF 0,Xx XF 0]
theorem bI(h:T.heap[n]?=XK (XE bb 85)) :
  XI T ⟨n,0,XJ⟩=XK (Xx XF 0)/\XI T ⟨n,1,XJ⟩=XK (Xy ⟨#[]⟩)/\XI T ⟨n,2,XJ⟩=XK (Xx XF 0)/\XI T ⟨n,3,XJ⟩=XK (Xx XF 0):=by
 refine⟨?_,?_,?_,?_⟩ <;> (rw[ab h];rfl)
theorem jX{F:Nat}(D:aO d n k L z4 I v)(b:aj n T y d v)(a:T.heap.size<=F)(i:n≠F)(j:¬cD v F)(c e f g:XQ) :
  aO ((((d.setCell ⟨F,0,XJ⟩ c).setCell ⟨F,1,XJ⟩ e).setCell ⟨F,2,XJ⟩ f).setCell ⟨F,3,XJ⟩ g) n k L z4 I v /\
  aj n T y ((((d.setCell ⟨F,0,XJ⟩ c).setCell ⟨F,1,XJ⟩ e).setCell ⟨F,2,XJ⟩ f).setCell ⟨F,3,XJ⟩ g) v:=by
 refine⟨D.kept (fS _ _ _ _) (by simpa using i) (fun x l=>by simp;rintro rfl;exact j l),?_,b.2⟩;exact(((b.1.setCell (P7 a) _).setCell (P7 a) _).setCell (P7 a) _).setCell (P7 a) _
set_option maxRecDepth 100000
theorem qo(E:f.length=4)(d:Db)(p:Nat->Hd)(sp:XQ)(x n:ByteArray)(i c:Int)(w:XP)(h:aO w l S (dm H f) [] d p)(hs:eu d 10000000)(hx:x.size<=1073741824)(hi:xY d 100000000)(hn:(x.toList == [36,91])=XM) :
  XO prog 136 #[XA (XK ⟨l,0,XJ⟩),sp,XB #[Xy x,Xx XF 0,XC XM,Xy n,Xx XF i,Xx XF c]] w fun e j =>
   e=XH (fD (if((aK d x ⟨n,i,c⟩).1==0)=XL then cy else((aK d x ⟨n,i,c⟩).1,⟨n,i,c⟩))) /\
   ∃O,aO j l S (dm H f) [] (aK d x ⟨n,i,c⟩).2 O/\aj l w p j O:=by
 have ac:=h.lt;have C:=fun(j:XP) (h':aO j l S (dm H f) [] d p)=>J4 l S 5 (dm H f) [] d p x n i c j h' (fY H f E) hs hx hi;unfold fo at C;have t:XN _:=C;clear C;generalize aK d x ⟨n,i,c⟩=td at *;obtain⟨r,d'⟩:=td;simp only at t;obtain⟨W,B⟩:∃W,W=((w.alloc (XE #[Xy x,Xx XF 0,XC XM,Xy n,Xx XF i,Xx XF c] 223)).alloc (XE #[Xx XF 0,Xy ⟨#[]⟩,Xx XF 0,Xx XF 0] 85)):=⟨_,rfl⟩
 have R:aa [] w W:=by rw[B];exact((aa.refl [] w).alloc _).alloc _
 have P:aO W l S (dm H f) [] d p:=h.Ur R;have A:W.heap[w.heap.size]?=XK (XE #[Xy x,Xx XF 0,XC XM,Xy n,Xx XF i,Xx XF c] 223):=by
  rw[B];exact((aa.refl [] _).alloc _).get (PM _ _) (by simp)
 have Q:W.heap[w.heap.size+1]?=XK (XE bb 85):=by
  rw[B];have:=PM (w.alloc (XE #[Xy x,Xx XF 0,XC XM,Xy n,Xx XF i,Xx XF c] 223)) (XE #[Xx XF 0,Xy ⟨#[]⟩,Xx XF 0,Xx XF 0] 85);simpa [bb] using this
 have s:XN (∀k,w.heap.size<=k->¬(k=l∨cD p k)):=by
  rintro k hk (e | G)
  ·omega
  ·have:=h.inlt G;omega
 have U:XN _:=B.symm;clear B h;have i0:XI W ⟨w.heap.size,0,XJ⟩=XK (Xy x):=by rw[ab A];rfl
 have i3:XI W ⟨w.heap.size,3,XJ⟩=XK (Xy n):=by rw[ab A];rfl
 have i4:XI W ⟨w.heap.size,4,XJ⟩=XK (Xx XF i):=by rw[ab A];rfl
 have i5:XI W ⟨w.heap.size,5,XJ⟩=XK (Xx XF c):=by rw[ab A];rfl
 have v:=(show XN _ from fun(a:XP) (b:Nat->Hd) (u:aO a l S (dm H f) [] d' b) (g:aj l W.drew p a b) (V X Y Z:XQ) =>
  jX u ((g.first (aa.refl [] W).drew).first R) (F:=w.heap.size+1) (by omega) (by omega) (g.fresh (w.heap.size+1) (by exact ae Q) (fun G=>s.out (w.heap.size+1) (by omega) (P7 G))) V X Y Z)
 have q:XN _:=fun(a:XP) (b:Nat->Hd) (g:aj l W.drew p a b)=>(show _/\_ from⟨g.1.get (by exact A) (s.out _ (PQ _)),g.1.get (by exact Q) (s.out _ (by omega))⟩)
 have N:∀(a:XP) (b:Nat->Hd) (_:aj l W.drew p a b),XI a ⟨w.heap.size,0,XJ⟩=XK (Xy x)/\XI a ⟨w.heap.size,3,XJ⟩=XK (Xy n)/\XI a ⟨w.heap.size,4,XJ⟩=XK (Xx XF i)/\XI a ⟨w.heap.size,5,XJ⟩=XK (Xx XF c):=by
  intro a b g;have D:=(q.out a b g).1;refine⟨?_,?_,?_,?_⟩ <;> (rw[ab D];rfl)
 have z:XN _:=N;clear N;go_enter func136,ntmps136;go_upto_region 1 with fail
 rw[U.out];go_upto_region 3 with fail
 cases T:(r==0)
 ·have I:(r != 0)=XL:=by simp[bne,T]
  go_region_held3 (fun j=>XI j ⟨w.heap.size,0,XJ⟩=XK (Xy x)/\XI j ⟨w.heap.size,3,XJ⟩=XK (Xy n)/\XI j ⟨w.heap.size,4,XJ⟩=XK (Xx XF i)/\XI j ⟨w.heap.size,5,XJ⟩=XK (Xx XF c)) (go_keep) (first | (go_at_call 155;refine(t.out _ (by exact P.Ur (aa.refl [] _).drew)).mono ?_;rintro e a ⟨rfl,b,u,g⟩;obtain⟨r0,r3,r4,r5⟩:=z.out a b g))
  all_goals
   have o:=(q.out a b g).2;have m:XN _:=v.out a b u g;obtain⟨J,K,L,M⟩:=bI o;have y:=aw o;go_wp2;exact Qg (v:=XB #[Xx XF r,Xy n,Xx XF i,Xx XF c]) (by simp[results,results136,go_sem,J,K,L,M]) rfl
    ⟨rfl,b,(m.out _ _ _ _).1,(m.out _ _ _ _).2⟩
 ·have I:(r != 0)=XM:=by simp[bne,T]
  go_region_held3 (fun j=>XI j ⟨w.heap.size,0,XJ⟩=XK (Xy x)/\XI j ⟨w.heap.size,3,XJ⟩=XK (Xy n)/\XI j ⟨w.heap.size,4,XJ⟩=XK (Xx XF i)/\XI j ⟨w.heap.size,5,XJ⟩=XK (Xx XF c)) (go_keep) (first | (go_at_call 155;refine(t.out _ (by exact P.Ur (aa.refl [] _).drew)).mono ?_;rintro e a ⟨rfl,b,u,g⟩;obtain⟨r0,r3,r4,r5⟩:=z.out a b g))
  all_goals
   have o:=(q.out a b g).2;have m:XN _:=v.out a b u g;obtain⟨J,K,L,M⟩:=bI o;have y:=aw o;go_wp2;exact Qg (v:=XB #[Xx XF 0,Xy ⟨#[]⟩,Xx XF 0,Xx XF 0]) (by simp[results,results136,go_sem,J,K,L,M]) rfl
    ⟨rfl,b,(m.out _ _ _ _).1,(m.out _ _ _ _).2⟩
def gx(b v:Nat)(fs:Fs)(f j:Nat)(bg:List Bool)(d:Db)(H:Nat->Hd)(w:XP):Prop :=
 XO prog 112 #[XA (XK ⟨b,0,XJ⟩),Xx XF j] w fun e w'=>e=XH (fD (cA fs f j bg d).1)/\∃H',aO w' b 186 (dm v (cA fs f j bg d).2.1) [] (cA fs f j bg d).2.2 H'/\aj b w H w' H'
theorem gP{F:Nat}(D:aO d n k L z4 I v)(f:eo n z7 T y d v)(g:T.heap.size<=F)(i:n≠F)(j:¬cD v F)(a b c e:XQ) :
  aO ((((d.setCell ⟨F,0,XJ⟩ a).setCell ⟨F,1,XJ⟩ b).setCell ⟨F,2,XJ⟩ c).setCell ⟨F,3,XJ⟩ e) n k L z4 I v /\
  eo n z7 T y ((((d.setCell ⟨F,0,XJ⟩ a).setCell ⟨F,1,XJ⟩ b).setCell ⟨F,2,XJ⟩ c).setCell ⟨F,3,XJ⟩ e) v :=
 ⟨D.kept (fS _ _ _ _) (by simpa using i) (fun x l=>by simp;rintro rfl;exact j l),f.beyond (fS _ _ _ _) (by simpa using g)⟩
theorem mY(t:ByteArray)(u:Int)(f:Bool)(p:Nat):fD (fU z5 M ⟨t,u,f,p⟩)=XB #[Xx XF (if f=XL then 7 else u),Xy z5,Xx XF (aL M p),Xx XF (bA M p)]:=rfl
structure oo(w w':XP)(b v tt sp z:Nat)(fs:Fs)(more:List XQ)(bg:List Bool)(d:Db)(H:Nat->Hd)(n s:ByteArray):Prop where
 D:aO w' b 186 (dm v bg) [] d H
 TB:bV w' v tt fs more
 SC:bF w' sp n s z
 F:w'.heap[w.heap.size+1]?=XK (XE bb 85)
 M:eo b sp w H w' H
theorem oo.Ur(S:oo T d n k z7 g y5 y3 L y4 I y z8 y0)(a:aa [] d D):oo T D n k z7 g y5 y3 L y4 I y z8 y0 :=
 ⟨S.D.Ur a,S.TB.kept a (by simp),S.SC.kept a (by simp),a.get S.F (by simp),S.M.Ur a⟩
theorem oo.next{b:Nat}(S:oo T d n k z7 g y5 y3 L y4 I y z8 y0)(a:aa [g] d D)(c:bF D g z8 y0 b)(f:g≠n)(i:k≠g)(j:¬cD y g)(m:g<T.heap.size):oo T D n k z7 g b y3 L y4 I y z8 y0 :=
 ⟨S.D.kept a (by simpa using fun e=>f e.symm) (by intro x l;simp;rintro rfl;exact j l),S.TB.kept a (by simpa using i),c,a.get S.F (by simp;omega),S.M.scan a⟩
theorem zh(be:f.length=4)(d:Db)(B:Nat->Hd)(n s:ByteArray)(A c:Int)(w:XP)(h:aO w i 186 (dm a f) [] d B)(hn:bH b S=n)(b2:PH b S=s)(hs:s.size<=1024)(hz:H<=s.size)(az:bF w x n s H)(ht:bV w a N b o)(Z:x≠i)(bo:a≠x)(a6:¬cD B x)(RF:XN (∀(j:Nat) (w':XP),j<b.length->aO w' i 186 (dm a f) [] d B->bV w' a N b o->gx i a b l j f d B w')) :
  XO prog 154 #[XA (XK ⟨i,0,XJ⟩),XA (XK ⟨x,0,XJ⟩),XB #[Xy n,Xx XF A,Xx XF c]] w fun e w' =>
   e=XH (fD (lu (cA b l) b S H ⟨n,A,c⟩ f d).1.1)/\∃H',aO w' i 186 (dm a (lu (cA b l) b S H ⟨n,A,c⟩ f d).1.2.1) [] (lu (cA b l) b S H ⟨n,A,c⟩ f d).1.2.2 H'/\eo i x w B w' H' /\
    (((lu (cA b l) b S H ⟨n,A,c⟩ f d).1.1.1==0)=XL->bF w' x n s (lu (cA b l) b S H ⟨n,A,c⟩ f d).2):=by
 obtain⟨W,hW⟩:∃W,W=((w.alloc (XE #[Xy n,Xx XF A,Xx XF c] 67)).alloc (XE #[Xx XF 0,Xy ⟨#[]⟩,Xx XF 0,Xx XF 0] 85)):=⟨_,rfl⟩
 have hK:aa [] w W:=by rw[hW];exact((aa.refl [] w).alloc _).alloc _
 have cd:=h.lt;have ao:=ae az;have cf:=ht.lt;have D:aO W i 186 (dm a f) [] d B:=h.Ur hK;have SC:bF W x n s H:=az.kept hK (by simp);have TB:bV W a N b o:=ht.kept hK (by simp);have hP:W.heap[w.heap.size]?=XK (XE #[Xy n,Xx XF A,Xx XF c] 67):=by
  rw[hW];exact((aa.refl [] _).alloc _).get (PM _ _) (by simp)
 have hF:W.heap[w.heap.size+1]?=XK (XE bb 85):=by
  rw[hW];have:=PM (w.alloc (XE #[Xy n,Xx XF A,Xx XF c] 67)) (XE #[Xx XF 0,Xy ⟨#[]⟩,Xx XF 0,Xx XF 0] 85);simpa [bb] using this
 have E:XN (∀k,w.heap.size<=k->¬cD B k):=fun k hk hm=>by have:=h.inlt hm;omega
 have HW:XN _:=hW.symm;have b9:=ae hF;have MK:XN (eo i x w B W B):=(eo.refl i x w B).Ur hK;clear hW h az ht;have K:XN (lu (cA b l) b S H ⟨n,A,c⟩ f d=match BI b S H ⟨n,A,c⟩ d with | .inl q=>((q,f,d),H) | .inr (j,z')=>(cA b l j f d,z')):=rfl;have C:XN (BI b S H ⟨n,A,c⟩ d=_):=(show BI b S H ⟨n,A,c⟩ d=_ from by unfold BI;rw[hn,b2])
 cases ho:de d
 ·have a7:=dG s H hz;have b5:=jr s H hs;have bp:=dG s (an s H).2 a7.2.1;have bk:=yT (an s H).1.text b;generalize hr1:an s H=r1 at *;obtain⟨⟨t1,u1,f1,I⟩,z1⟩:=r1;simp only at a7 b5 bp bk C;have b6:=jr s z1 hs;generalize hr2:an s z1=r2 at *;obtain⟨⟨t2,u2,f2,U⟩,z2⟩:=r2;simp only at bp b6 C;rw[ho]at C;have S0:oo w W i a N x H b o f d B n s:=⟨D,TB,SC,hF,MK.out⟩;go_enter func154,ntmps154;go_upto_region 1 with fail
  rw[HW.out];go_wp2_with fail;refine(pm i 186 5 (dm a f) [] d B _ D (fY a f be)).mono ?_;rintro e w1 ⟨rfl,z⟩;subst z;rw[ho];go_wp2_with fail;refine(ph x H n s _ hs hz SC).mono ?_;rintro e w2 ⟨rfl,ac,bl⟩;rw[hr1]at ac ⊢;simp only[dZ]at ac ⊢;have S2:=S0.next bl ac Z bo a6 ao;obtain⟨W3,ag⟩:∃W3,W3=w2.alloc (XE #[Xy t1,Xx XF u1,XC f1,Xy n,Xx XF (aL s I),Xx XF (bA s I)] 223):=⟨_,rfl⟩
  have a9:XN _:=ag.symm;have S3:oo w W3 i a N x z1 b o f d B n s:=by rw[ag];exact S2.Ur ((aa.refl [] _).alloc _)
  have I3:gG W3 w2.heap.size n s ⟨t1,u1,f1,I⟩:=by rw[ag];exact PM _ _
  clear ag S0 S2 ac bl D TB SC hP hF hK HW hr1;go_upto_region 4 with fail
  rw[a9.out];clear a9;obtain⟨p,t,u,v,a4,a5⟩:=I3.cells;go_wp2_with fail;refine(cJ t1 n u1 (aL s I) (bA s I) f1 _).mono ?_;rintro e w4 ⟨rfl,aq⟩;have L:=S3.Ur aq;have I4:=I3.kept aq (by simp);clear p t u v a4 a5 S3 I3 aq;obtain⟨p,t,u,v,a4,a5⟩:=I4.cells;have ca:=ae I4;have b7:=ae L.F;cases z:(u1==0 && !f1)
  ·have m:XN (lu (cA b l) b S H ⟨n,A,c⟩ f d=((fU n s ⟨t1,u1,f1,I⟩,f,d),H)):=by
    show _=_;rw[K.out,C.out];simp[aF,z]
   clear K C;go_wp2_with fail;refine(jA t1 n u1 (aL s I) (bA s I) f1 _).mono ?_;rintro e w5 ⟨rfl,bx⟩;obtain⟨q,hq⟩:∃q:Int,XN ((if f1=XL then(7:Int) else u1)=q):=⟨_,rfl⟩
   rw[hq.out];have V:=L.Ur bx;obtain⟨O,P,Q,T⟩:=bI V.F;have y:=aw V.F;have g:XN _:=(fun p t u v=>gP V.D V.M (F:=w.heap.size+1) (by omega) (by omega) (E.out _ (by omega)) p t u v);clear p t u v a4 a5;go_wp2;exact Qg (v:=XB #[Xx XF q,Xy n,Xx XF (aL s I),Xx XF (bA s I)]) (by simp[results,results154,go_sem,O,P,Q,T]) rfl
    ⟨by rw[m.out,mY,hq.out],B,by rw[m.out];exact(g.out _ _ _ _).1,(g.out _ _ _ _).2,by
     rw[m.out];intro G
     exfalso
     simp only[fU]at G;cases f1
     ·simp at z G;exact z G
     ·simp at G⟩
  ·have b3:u1=0:=(by simp at z;exact z.1);have bv:f1=XM:=(by simp at z;exact z.2);subst b3 bv;cases Y:dz t1
   ·have b0:XI w4 ⟨i,0,XJ⟩=XK (XA (XK ⟨a,0,XJ⟩)):=L.D.preCell 0 (by simp[dm]);rcases bk with am | ⟨j,hj,ai⟩
    ·have m:XN (lu (cA b l) b S H ⟨n,A,c⟩ f d=(((6,fq n s I),f,d),H)):=by
      show _=_;rw[K.out,C.out];simp[aF,Y,am]
     clear K C;(go_upto_region 8 with (go_at_call 171;refine(dt t1 _ (by omega)).mono ?_;rintro e w5 ⟨rfl,rfl⟩));go_quiet ((go_at_call 48;exact QC (jV a N b o t1 _ (L.Ur ((aa.refl [] _).drewN _)).TB)));have V:=L.Ur ((aa.refl [] _).drewN nq);rw[am];obtain⟨O,P,Q,T⟩:=bI L.F;have y:=aw L.F;have g:XN _:=(fun p t u v=>gP V.D V.M (F:=w.heap.size+1) (by omega) (by omega) (E.out _ (by omega)) p t u v);go_wp2;exact Qg (v:=XB #[Xx XF 6,Xy n,Xx XF (aL s I),Xx XF (bA s I)]) (by simp[results,results154,go_sem,O,P,Q,T]) rfl
      ⟨by rw[m.out];rfl,B,by rw[m.out];exact(g.out _ _ _ _).1,(g.out _ _ _ _).2,by rw[m.out];intro G;cases G⟩
    ·(go_upto_region 8 with (go_at_call 171;refine(dt t1 _ (by omega)).mono ?_;rintro e w5 ⟨rfl,rfl⟩));go_quiet ((go_at_call 48;exact QC (jV a N b o t1 _ (L.Ur ((aa.refl [] _).drewN _)).TB)));rw[ai];have V:=L.Ur ((aa.refl [] _).drewN nq);go_wp2_with fail;refine(ph x z1 n s _ hs a7.2.1 V.SC).mono ?_;rintro e w6 ⟨rfl,ad,bm⟩;rw[hr2]at ad ⊢;simp only[dZ]at ad ⊢;have S6:=V.next bm ad Z bo a6 ao;obtain⟨W7,ah⟩:∃W7,W7=w6.alloc (XE #[Xy t2,Xx XF u2,XC f2,Xy n,Xx XF (aL s U),Xx XF (bA s U)] 223):=⟨_,rfl⟩
     have bc:XN _:=ah.symm;have S7:oo w W7 i a N x z2 b o f d B n s:=(by rw[ah];exact S6.Ur ((aa.refl [] _).alloc _));have I7:gG W7 w6.heap.size n s ⟨t2,u2,f2,U⟩:=(by rw[ah];exact PM _ _);clear ah L V S6 ad bm I4 p t u v a4 a5 b0;(go_upto_region 12 with fail);rw[bc.out];clear bc;obtain⟨p,t,u,v,a4,a5⟩:=I7.cells;go_wp2_with fail;refine(cJ t2 n u2 (aL s U) (bA s U) f2 _).mono ?_;rintro e w8 ⟨rfl,av⟩;have X:=S7.Ur av;have I8:=I7.kept av (by simp);clear p t u v a4 a5 S7 I7 av;obtain⟨p,t,u,v,a4,a5⟩:=I8.cells;have cb:=ae I8;have bd:=ae X.F;have ap:¬((j:Int)<0):=by omega
     cases J:(u2==0 && !f2)
     ·have m:XN (lu (cA b l) b S H ⟨n,A,c⟩ f d=((fU n s ⟨t2,u2,f2,U⟩,f,d),H)):=by
       show _=_;rw[K.out,C.out,ai];simp[aF,Y,J,ap]
      clear K C;go_wp2_with fail;refine(jA t2 n u2 (aL s U) (bA s U) f2 _).mono ?_;rintro e w9 ⟨rfl,b1⟩;obtain⟨q,hq⟩:∃q:Int,XN ((if f2=XL then(7:Int) else u2)=q):=⟨_,rfl⟩
      rw[hq.out];have S9:=X.Ur b1;obtain⟨O,P,Q,T⟩:=bI S9.F;have y:=aw S9.F;have g:XN _:=(fun p t u v=>gP S9.D S9.M (F:=w.heap.size+1) (by omega) (by omega) (E.out _ (by omega)) p t u v);clear p t u v a4 a5;go_wp2;exact Qg (v:=XB #[Xx XF q,Xy n,Xx XF (aL s U),Xx XF (bA s U)]) (by simp[results,results154,go_sem,O,P,Q,T]) rfl
       ⟨by rw[m.out,mY,hq.out],B,by rw[m.out];exact(g.out _ _ _ _).1,(g.out _ _ _ _).2,by
        rw[m.out];intro G
        exfalso
        simp only[fU]at G;cases f2
        ·simp at J G;exact J G
        ·simp at G⟩
     ·have b4:u2=0:=(by simp at J;exact J.1);have bw:f2=XM:=(by simp at J;exact J.2);subst b4 bw;cases bf:(t2.toList == [36,93])
      ·have m:XN (lu (cA b l) b S H ⟨n,A,c⟩ f d=(((5,fq n s U),f,d),H)):=by
        show _=_;rw[K.out,C.out,ai];simp[aF,Y,bf,ap]
       clear K C;obtain⟨O,P,Q,T⟩:=bI X.F;have y:=aw X.F;have g:XN _:=(fun p t u v=>gP X.D X.M (F:=w.heap.size+1) (by omega) (by omega) (E.out _ (by omega)) p t u v);go_wp2;exact Qg (v:=XB #[Xx XF 5,Xy n,Xx XF (aL s U),Xx XF (bA s U)]) (by simp[results,results154,go_sem,O,P,Q,T]) rfl
        ⟨by rw[m.out];rfl,B,by rw[m.out];exact(g.out _ _ _ _).1,(g.out _ _ _ _).2,by rw[m.out];intro G;cases G⟩
      ·have m:XN (lu (cA b l) b S H ⟨n,A,c⟩ f d=(cA b l j f d,z2)):=by
        show _=_;rw[K.out,C.out,ai];simp[aF,Y,bf,ap]
       clear K C;have RJ:=RF.out j w8 hj X.D X.TB;unfold gx at RJ;have a8:XN _:=RJ;clear RJ RF;generalize cA b l j f d=R at *;obtain⟨⟨r,pf,pl,pc⟩,b8,d'⟩:=R;simp only[fD]at a8;go_wp2_with fail;refine PU a8.out ?_;rintro e w9 ⟨rfl,H9,D9,T9⟩;have F9:=T9.1.get X.F (by rintro (e | e);omega;exact E.out _ (by omega) e);have bs:bF w9 x n s z2:=T9.1.get X.SC (by rintro (e | e);exact Z e;exact a6 e);obtain⟨O,P,Q,T⟩:=bI F9;have y:=aw F9;have g:XN _:=(fun p t u v=>gP D9 (X.M.trans (T9.Uw x)) (F:=w.heap.size+1) (by omega) (by omega) (T9.fresh _ bd (E.out _ (by omega))) p t u v);have bq:XN _:=(fun p t u v=>bs.kept (fS (r:=w.heap.size+1) p t u v) (by simp;omega));clear p t u v a4 a5;go_wp2;exact Qg (v:=XB #[Xx XF r,Xy pf,Xx XF pl,Xx XF pc]) (by simp[results,results154,go_sem,O,P,Q,T]) rfl
        ⟨by rw[m.out];rfl,H9,by rw[m.out];exact(g.out _ _ _ _).1,(g.out _ _ _ _).2,by rw[m.out];exact fun _=>bq.out _ _ _ _⟩
   ·have m:XN (lu (cA b l) b S H ⟨n,A,c⟩ f d=(((5,fq n s I),f,d),H)):=by
     show _=_;rw[K.out,C.out];simp[aF,Y]
    clear K C;obtain⟨O,P,Q,T⟩:=bI L.F;have y:=aw L.F;have g:XN _:=(fun p t u v=>gP L.D L.M (F:=w.heap.size+1) (by omega) (by omega) (E.out _ (by omega)) p t u v);go_wp2_with (go_at_call 171;refine(dt t1 _ (by omega)).mono ?_;rintro e w5 ⟨rfl,rfl⟩);exact Qg (v:=XB #[Xx XF 5,Xy n,Xx XF (aL s I),Xx XF (bA s I)]) (by simp[results,results154,go_sem,O,P,Q,T]) rfl
     ⟨by rw[m.out];rfl,B,by rw[m.out];exact(g.out _ _ _ _).1,(g.out _ _ _ _).2,by rw[m.out];intro G;cases G⟩
 ·have m:XN (lu (cA b l) b S H ⟨n,A,c⟩ f d=(((4,⟨n,A,c⟩),f,d),H)):=by
   show _=_;rw[K.out,C.out,ho];simp
  clear K C;have i0:XI W ⟨w.heap.size,0,XJ⟩=XK (Xy n):=by rw[ab hP];rfl
  have i1:XI W ⟨w.heap.size,1,XJ⟩=XK (Xx XF A):=by rw[ab hP];rfl
  have i2:XI W ⟨w.heap.size,2,XJ⟩=XK (Xx XF c):=by rw[ab hP];rfl
  obtain⟨O,P,Q,T⟩:=bI hF;have y:=aw hF;have g:XN _:=(fun p t u v=>gP D MK.out (F:=w.heap.size+1) (by omega) (by omega) (E.out _ (by omega)) p t u v);go_enter func154,ntmps154;go_upto_region 1 with fail
  rw[HW.out];go_wp2_with fail;refine(pm i 186 5 (dm a f) [] d B _ D (fY a f be)).mono ?_;rintro e w1 ⟨rfl,z⟩;subst z;rw[ho];go_wp2;exact Qg (v:=XB #[Xx XF 4,Xy n,Xx XF A,Xx XF c]) (by simp[results,results154,go_sem,O,P,Q,T]) rfl
   ⟨by rw[m.out];rfl,B,by rw[m.out];exact(g.out _ _ _ _).1,(g.out _ _ _ _).2,by rw[m.out];intro G;cases G⟩
theorem xn(D:f.length=4)(d:Db)(m:Nat->Hd)(n s t:ByteArray)(g c:Int)(w:XP)(h:aO w i 186 (dm a f) [] d m)(hn:bH b S=n)(ac:PH b S=s)(hs:s.size<=1024)(hz:H<=s.size)(u:bF w x n s H)(ht:bV w a N b o)(p:x≠i)(ah:a≠x)(G:¬cD m x)(ad:eu d 10000000)(ag:t.size<=1073741824)(Z:xY d 100000000)(RF:XN (∀(j:Nat) (q:XP),j<b.length->aO q i 186 (dm a f) [] d m->bV q a N b o->gx i a b l j f d m q)) :
  XO prog 136 #[XA (XK ⟨i,0,XJ⟩),XA (XK ⟨x,0,XJ⟩),XB #[Xy t,Xx XF 0,XC XM,Xy n,Xx XF g,Xx XF c]] w fun e q =>
   e=XH (fD (gW (cA b l) b S H t ⟨n,g,c⟩ f d).1.1)/\∃I,aO q i 186 (dm a (gW (cA b l) b S H t ⟨n,g,c⟩ f d).1.2.1) [] (gW (cA b l) b S H t ⟨n,g,c⟩ f d).1.2.2 I/\eo i x w m q I /\
    (((gW (cA b l) b S H t ⟨n,g,c⟩ f d).1.1.1==0)=XL->bF q x n s (gW (cA b l) b S H t ⟨n,g,c⟩ f d).2):=by
 cases Y:(t.toList == [36,91])
 ·have J:gW (cA b l) b S H t ⟨n,g,c⟩ f d=((if((aK d t ⟨n,g,c⟩).1==0)=XL then cy else((aK d t ⟨n,g,c⟩).1,⟨n,g,c⟩),f,(aK d t ⟨n,g,c⟩).2),H):=by
   unfold gW;rw[Y];simp
  rw[J];refine(qo i 186 a f D d m _ t n g c w h ad ag Z Y).mono ?_;rintro e q ⟨rfl,I,D',T'⟩;exact⟨rfl,I,D',T'.Uw x,fun _=>T'.1.get u (by rintro (e | e);exact p e;exact G e)⟩
 ·have J:gW (cA b l) b S H t ⟨n,g,c⟩ f d=lu (cA b l) b S H ⟨n,g,c⟩ f d:=by
   unfold gW;rw[Y];simp
  rw[J];obtain⟨W,C⟩:∃W,W=((w.alloc (XE #[Xy t,Xx XF 0,XC XM,Xy n,Xx XF g,Xx XF c] 223)).alloc (XE #[Xx XF 0,Xy ⟨#[]⟩,Xx XF 0,Xx XF 0] 85)):=⟨_,rfl⟩
  have L:aa [] w W:=by rw[C];exact((aa.refl [] w).alloc _).alloc _
  have ao:=h.lt;have ai:=ae u;have K:W.heap[w.heap.size]?=XK (XE #[Xy t,Xx XF 0,XC XM,Xy n,Xx XF g,Xx XF c] 223):=by
   rw[C];exact((aa.refl [] _).alloc _).get (PM _ _) (by simp)
  have hF:W.heap[w.heap.size+1]?=XK (XE bb 85):=by
   rw[C];have:=PM (w.alloc (XE #[Xy t,Xx XF 0,XC XM,Xy n,Xx XF g,Xx XF c] 223)) (XE #[Xx XF 0,Xy ⟨#[]⟩,Xx XF 0,Xx XF 0] 85);simpa [bb] using this
  have i0:XI W ⟨w.heap.size,0,XJ⟩=XK (Xy t):=by rw[ab K];rfl
  have i3:XI W ⟨w.heap.size,3,XJ⟩=XK (Xy n):=by rw[ab K];rfl
  have i4:XI W ⟨w.heap.size,4,XJ⟩=XK (Xx XF g):=by rw[ab K];rfl
  have i5:XI W ⟨w.heap.size,5,XJ⟩=XK (Xx XF c):=by rw[ab K];rfl
  have IC:=zh i a N x l S H b o f D d m n s g c W (h.Ur L) hn ac hs hz (u.kept L (by simp)) (ht.kept L (by simp)) p ah G RF;have z:XN _:=IC;have A:XN (∀k,w.heap.size<=k->¬cD m k):=fun k hk hm=>by have:=h.inlt hm;omega
  have HW:XN _:=C.symm;have V:=ae hF;clear C IC RF J h;generalize lu (cA b l) b S H ⟨n,g,c⟩ f d=R at *;obtain⟨⟨⟨r,pf,pl,pc⟩,am,d'⟩,z'⟩:=R;simp only[fD]at z ⊢;go_enter func136,ntmps136;go_upto_region 1 with fail
  rw[HW.out];go_wp2_with fail;refine PU z.out ?_;rintro e w2 ⟨rfl,H2,D2,O,E⟩;have B:=O.1.get hF (by rintro (e | e | e);omega;omega;exact A.out _ (by omega) e);obtain⟨j0,j1,j2,j3⟩:=bI B;have y:=aw B;have v:XN _:=(fun P Q T U=>gP D2 (O.first L) (F:=w.heap.size+1) (by omega) (by omega) (O.fresh _ V (A.out _ (by omega))) P Q T U);have M:XN _:=(fun P Q T U X=>(E X).kept (fS (r:=w.heap.size+1) P Q T U) (by simp;omega));clear E i0 i3 i4 i5;go_wp2;exact Qg (v:=XB #[Xx XF r,Xy pf,Xx XF pl,Xx XF pc]) (by simp[results,results136,go_sem,j0,j1,j2,j3]) rfl
   ⟨rfl,H2,(v.out _ _ _ _).1,(v.out _ _ _ _).2,fun X=>M.out _ _ _ _ X⟩
set_option maxRecDepth 512
theorem zE :
  XO prog 132 #[XB #[Xy z5,Xy M]] z6 fun e a=>∃s,e=XH (XA (XK ⟨s,0,XJ⟩))/\z6.heap.size<=s/\bF a s z5 M 0/\aa [] z6 a:=by
 go_enter func132,ntmps132;go_wp2;go_ret;refine⟨z6.heap.size+1,rfl,by omega,?_,((aa.refl _ _).alloc _).alloc _⟩;have:=PM (z6.alloc (XE #[Xy z5,Xy M] 41)) (XE #[Xy z5,Xy M,Xx XF 0,Xx XF 1,Xx XF 1] 242);simpa [bF,jd,aL,bA] using this
theorem aj.beyond(a:aj n T y d v)(k:aa y2 d D)(c:∀x,x∈y2->T.heap.size<=x):aj n T y D v :=
 ⟨⟨k.os.trans a.1.os,k.tape.trans a.1.tape,k.output.trans a.1.output,Qk a.1.size k.size,fun i b f=>by
  rw[<-a.1.block i b f];exact k.block i (PY b a.1.size) (fun e=>by have:=c i e;omega)⟩,a.2⟩
theorem aj.word(a:aj n T y d v)(M:eo n k d v D y1)(i:T.heap.size<=k):aj n T y D y1:=by
 refine⟨⟨M.1.os.trans a.1.os,M.1.tape.trans a.1.tape,M.1.output.trans a.1.output,Qk a.1.size M.1.size,?_⟩,?_⟩
 ·intro b c f;rw[<-a.1.block b c f];refine M.1.block b (PY c a.1.size) ?_;rintro (e | e | g)
  ·exact f (P0 e)
  ·omega
  ·rcases a.2 b g with h | h
   ·exact f (P7 h)
   ·omega
 ·intro b c;rcases M.2 b c with h | h
  ·exact a.2 b h
  ·exact P7 (Qk a.1.size h)
theorem FP:(dm H f).set (1+m) (XC XL)=dm H (f.set m XL):=by
 unfold dm;rw[Nat.add_comm 1 m,Tu,Tn]
theorem zT(h:f.length=4)(a:m<4):(dm H f)[1+m]?=XK (XC (f.getD m XL)):=by
 unfold dm;rw[Nat.add_comm 1 m,Rf,Qt,PK];rw[PJ (by omega)];rfl
set_option maxRecDepth 100000
theorem tE(a:f.length=4)(d:Db)(c:Nat->Hd)(w:XP)(j:H<4)(h:aO w x 186 (dm l f) [] d c)(e:f.getD H XL=XL):gx x l b S H f d c w:=by
 unfold gx cA;rw[PZ e];have i:=h.lt;have g:=h.preCell (1+H) (by rw[fY l f a];omega);rw[zT l f H a j,e]at g;have m:XN (¬cD c w.heap.size):=fun k=>by have:=h.inlt k;omega
 go_enter func112,ntmps112;go_wp2;exact Qg (v:=XB #[Xx XF 0,Xy ⟨#[]⟩,Xx XF 0,Xx XF 0]) (by simp[results,results112,go_sem]) rfl
  ⟨rfl,c,h.Ur ((aa.refl [] _).alloc _),(aj.refl _ _ _).Ur ((aa.refl [] _).alloc _)⟩
theorem ux(ct:∀j,j<b.length->(PH b j).size<=1024)(b2:l≠x)(IH:∀g,g<H->∀(j:Nat) (I:List Bool) (d:Db) (J:Nat->Hd) (w:XP) (m:Nat),j<b.length->I.length=4->jw d m->m+dn b I<=9000000->dn b I<=g->aO w x 186 (dm l I) [] d J->bV w l S b o->¬cD J l->gx x l b g j I d J w)(j:Nat)(I:List Bool)(d:Db)(J:Nat->Hd)(w:XP)(m:Nat)(hj:j<b.length)(am:I.length=4)(hB:jw d m)(hm:m+dn b I<=9000000)(hf:dn b I<=H)(h:aO w x 186 (dm l I) [] d J)(ht:bV w l S b o)(b3:¬cD J l)(hb:I.getD j XL=XM):gx x l b H j I d J w:=by
 unfold gx cA;rw[PV (by rw[hb];simp)];have cF:=ht.2;have hs:=ct j hj;have bs:=te b I j am hb;obtain⟨n,hn⟩:∃n,bH b j=n:=⟨_,rfl⟩
 obtain⟨s,ah⟩:∃s,PH b j=s:=⟨_,rfl⟩
 rw[ah]at hs bs;have c8:=h.lt;have cd:=h.free;have dT:=ht.lt;have c1:=h.preCell (1+j) (by rw[fY l I am];omega);rw[zT l I j am (by omega),hb]at c1;have c0:=h.preCell 0 (by simp[dm]);have b8:XI w ⟨x,0,XJ⟩=XK (XA (XK ⟨l,0,XJ⟩)):=c0;clear c0;have P1:=h.pre (1+j) (by rw[fY l I am];omega) (XC XL);rw[FP]at P1;obtain⟨f,ao⟩:∃f,I.set j XL=f:=⟨_,rfl⟩
 have cg:f.length=4:=by rw[<-ao];simpa using am
 rw[ao]at P1 bs ⊢;clear ao;obtain⟨W,hW⟩:∃W,W=(w.setCell ⟨x,1+j,XJ⟩ (XC XL)).alloc (XE #[Xx XF 0,Xy ⟨#[]⟩,Xx XF 0,Xx XF 0] 85):=⟨_,rfl⟩
 have D1:aO W x 186 (dm l f) [] d J:=by rw[hW];exact P1.1.Ur ((aa.refl [] _).alloc _)
 have T1:aj x w J W J:=by rw[hW];exact P1.2.Ur ((aa.refl [] _).alloc _)
 have F1:W.heap[w.heap.size]?=XK (XE bb 85):=by
  rw[hW];have:=PM (w.setCell ⟨x,1+j,XJ⟩ (XC XL)) (XE bb 85);simpa [World.setCell,bb] using this
 have bf:bV W l S b o:=⟨T1.1.get ht.1 (by rintro (e | e);exact b2 e;exact b3 e),ht.2⟩;have az:XN (∀k,w.heap.size<=k->¬cD J k):=fun k hk hm=>by have:=h.inlt hm;omega
 have HW:XN _:=hW.symm;have b5:XN _:=IH;clear P1 hW IH;go_enter func112,ntmps112;go_wp2_with fail;rw[HW.out];clear HW c1 b8 cd ht h;refine(Il l S j b o _ bf hj).mono ?_;rintro e w2 ⟨rfl,ac⟩;rw[hn,ah];go_wp2_with fail;refine(zE n s _).mono ?_;rintro e w3 ⟨sp,rfl,dk,h3,ad⟩;go_wp2_with fail;refine(ph sp 0 n s _ hs (by omega) h3).mono ?_;rintro e w4 ⟨rfl,h4,ag⟩;have c7:=ae F1;have d0:=ac.size;have d1:=ad.size;have d3:=ag.size;have c2:w.heap.size<sp:=by omega
 have b1:sp≠x:=by omega
 have b4:l≠sp:=by omega
 have T4:aj x w J w4 J:=(((T1.Ur ac).Ur ad).beyond ag (by simp;omega));have F4:w4.heap[w.heap.size]?=XK (XE bb 85):=ag.get (ad.get (ac.get F1 (by simp)) (by simp)) (by simp;omega);have D4:aO w4 x 186 (dm l f) [] d J:=((D1.Ur ac).Ur ad).kept ag (by simp;omega) (by intro k hk;simp;rintro rfl;exact az.out _ (by omega) hk);have bl:bV w4 l S b o:=((bf.kept ac (by simp)).kept ad (by simp)).kept ag (by simp;omega);have cW:=ae h4;clear D1 T1 F1 bf ac ad ag h3;simp only[dZ];go_wp2
 go_loopg [7] s.size (fun gk _ wr=>∃(k g m1:Nat) (c:List Bool) (A:Db) (K:Nat->Hd),k<=s.size/\gk=s.size-k/\c.length=4/\jw A m1/\m1+(s.size-k)+dn b c<=9000000/\(s.size-k)+dn b c+1<=g/\g<=H /\
  XN (bh b H j 0 f d=bh b g j k c A)/\bF wr sp n s (an s k).2/\gG wr w4.heap.size n s (an s k).1 /\
  wr.heap[w.heap.size]?=XK (XE bb 85)/\aO wr x 186 (dm l c) [] A K/\bV wr l S b o/\aj x w J wr K/\(¬cD K sp/\¬cD K w4.heap.size/\¬cD K w.heap.size/\¬cD K l))
 case atStart=>exact⟨0,H,m,f,d,J,by omega,by omega,cg,hB,by omega,by omega,PQ _,rfl,h4.kept ((aa.refl [] _).alloc _) (by simp),PM _ _,((aa.refl [] _).alloc _).get F4 (by simp),D4.Ur ((aa.refl [] _).alloc _),bl.kept ((aa.refl [] _).alloc _) (by simp),T4.Ur ((aa.refl [] _).alloc _),az.out _ (by omega),az.out _ (by omega),az.out _ (by omega),b3⟩
 case round =>
  obtain⟨k,g,m1,c,A,K,hk,hg,aq,a5,dd,c9,dc,hR,h5,Z,hF,D,TB,T,bv,bw,O,be⟩:=hrel;obtain⟨M,rfl⟩:∃M,g=M+1:=⟨g-1,by omega⟩
  clear D4 T4 F4 bl h4;have bx:=dG s k hk;have cw:=jr s k hs;have SK:=Aq b M (Iy b M).2 j k c A m1 (by rw[ah];exact hk) aq a5;have L1:=DG b M j k c A;have L2:=rI b M j k c A;have L3:=wK b M j k c A;have L4:=sJ b M j k c A;have ST:fa b M j k c A=gW (cA b M) b j (an s k).2 (an s k).1.text (fq n s (an s k).1.pos) c A:=by unfold fa;rw[hn,ah]
  rw[ah]at SK L1 L2 L3 L4;rw[hn]at L4;rw[ST]at SK L1 L2;have L6:aF (an s k).1=XM->(an s k).1.fin=XM->((an s k).1.rule==0)=XM:=lR;have X:XN _:=SK;have R:XN _:=L1;have U:XN _:=L2;have V:XN _:=L3;have L:XN _:=L4;have ai:XN _:=L6;clear SK L1 L2 L3 L4 L6 ST;generalize hrr:an s k=r at *;obtain⟨⟨t,u,fi,p⟩,z⟩:=r;clear hrr;simp only at h5 Z bx cw X R U V L ai;obtain⟨q0,q1,q2,q3,q4,q5⟩:=Z.cells;have c5:=ae hF;have ds:=ae h5;have c6:=ae Z;have c4:=D.lt;cases hw:(u==0 && !fi)
  ·cases fi
   ·have P:XN (bh b H j 0 f d=(fU n s ⟨t,u,XM,p⟩,c,A)):=hR.out.trans (L.out hw (by simp));have hu:(u==0)=XM:=(by simpa using hw);clear R U V L ai X;go_wp2_with fail;refine(cJ t n _ (aL s p) (bA s p) _ _).mono ?_;rintro e w5 ⟨rfl,a⟩;have v:=Z.kept a (by simp);have i:=a.get hF (by simp);have D5:=D.Ur a;have T5:=T.Ur a;clear q0 q1 q2 q3 q4 q5 Z h5 hF D T a TB;obtain⟨q0,q1,q2,q3,q4,q5⟩:=v.cells;go_wp2_with fail;refine(jA t n u (aL s p) (bA s p) _ _).mono ?_;rintro e w6 ⟨rfl,bc⟩;simp only[Bool.false_eq_true,if_false];have B:=bc.get i (by simp);have D6:=D5.Ur bc;have T6:=T5.Ur bc;have q:XN _:=(fun a0 a1 a2 a3=>jX D6 T6 (F:=w.heap.size) (PQ _) (by omega) O a0 a1 a2 a3);obtain⟨z0,z1,z2,z3⟩:=bI B;have y:=aw B;go_wp2;exact Qg (v:=XB #[Xx XF u,Xy n,Xx XF (aL s p),Xx XF (bA s p)]) (by simp[results,results112,go_sem,z0,z1,z2,z3]) rfl
     ⟨by rw[P.out];rfl,K,by rw[P.out];exact(q.out _ _ _ _).1,(q.out _ _ _ _).2⟩
   ·cases ho:de A
    ·have P:XN (bh b H j 0 f d=(cy,c,A)):=hR.out.trans (V.out hw rfl ho);clear R U V L ai X;go_wp2_with fail;refine(cJ t n _ (aL s p) (bA s p) _ _).mono ?_;rintro e w5 ⟨rfl,a⟩;have v:=Z.kept a (by simp);have i:=a.get hF (by simp);have D5:=D.Ur a;have T5:=T.Ur a;clear q0 q1 q2 q3 q4 q5 Z h5 hF D T a TB;obtain⟨q0,q1,q2,q3,q4,q5⟩:=v.cells;go_wp2_with fail;refine(pm x 186 5 (dm l c) [] A K _ D5 (fY l c aq)).mono ?_;rintro e w6 ⟨rfl,bk⟩;subst bk;rw[ho];have q:XN _:=(fun a0 a1 a2 a3=>jX D5 T5 (F:=w.heap.size) (PQ _) (by omega) O a0 a1 a2 a3);obtain⟨z0,z1,z2,z3⟩:=bI i;have y:=aw i;go_wp2;exact Qg (v:=XB #[Xx XF 0,Xy ⟨#[]⟩,Xx XF 0,Xx XF 0]) (by simp[results,results112,go_sem,z0,z1,z2,z3]) rfl
      ⟨by rw[P.out];rfl,K,by rw[P.out];exact(q.out _ _ _ _).1,(q.out _ _ _ _).2⟩
    ·have P:XN (bh b H j 0 f d=(fU n s ⟨t,u,XL,p⟩,c,A)):=hR.out.trans (L.out hw (by simp[ho]));clear R U V L ai X;go_wp2_with fail;refine(cJ t n _ (aL s p) (bA s p) _ _).mono ?_;rintro e w5 ⟨rfl,a⟩;have v:=Z.kept a (by simp);have i:=a.get hF (by simp);have D5:=D.Ur a;have T5:=T.Ur a;clear q0 q1 q2 q3 q4 q5 Z h5 hF D T a TB;obtain⟨q0,q1,q2,q3,q4,q5⟩:=v.cells;go_wp2_with fail;refine(pm x 186 5 (dm l c) [] A K _ D5 (fY l c aq)).mono ?_;rintro e w6 ⟨rfl,bk⟩;subst bk;rw[ho];go_wp2_with fail;refine(jA t n u (aL s p) (bA s p) _ _).mono ?_;rintro e w7 ⟨rfl,bd⟩;simp only[if_true];have bo:=bd.get i (by simp);have D7:=D5.Ur bd;have T7:=T5.Ur bd;have q:XN _:=(fun a0 a1 a2 a3=>jX D7 T7 (F:=w.heap.size) (PQ _) (by omega) O a0 a1 a2 a3);obtain⟨z0,z1,z2,z3⟩:=bI bo;have y:=aw bo;go_wp2;exact Qg (v:=XB #[Xx XF 7,Xy n,Xx XF (aL s p),Xx XF (bA s p)]) (by simp[results,results112,go_sem,z0,z1,z2,z3]) rfl
      ⟨by rw[P.out];rfl,K,by rw[P.out];exact(q.out _ _ _ _).1,(q.out _ _ _ _).2⟩
  ·have hu:u=0:=(by simp at hw;exact hw.1);have cb:fi=XM:=(by simp at hw;exact hw.2);subst hu cb;have cs:=a5.small (N:=10000000) (by omega);have b0:=(a5.small (N:=100000000) (by omega)).2;have RW:=fun(w':XP) (h':aO w' x 186 (dm l c) [] A K) (co:bF w' sp n s z) (cu:bV w' l S b o)=>xn x l S sp M j z b o c aq A K n s t (aL s p) (bA s p) w' h' hn ah hs bx.2.1 co cu b1 b4 bv cs.1 (by omega) b0
    (fun jj ww cf ca cv=>b5.out M (by omega) jj c A K ww m1 cf aq a5 (by omega) (by omega) ca cv be)
   have a8:XN _:=RW;have G:XN _:=X.out hw;have C:XN _:=R.out hw;have E:XN _:=U.out hw;clear RW R U V L ai X;simp only[fq]at G C E;generalize gW (cA b M) b j z t ⟨n,aL s p,bA s p⟩ c A=Q at *;obtain⟨⟨⟨r,pf,pl,pc⟩,a9,d2⟩,z2⟩:=Q;simp only[fD]at G C E a8;have av:=G.out.2;obtain⟨bq,cj,m2,bm,ch⟩:=G.out.1;simp only at bq cj bm ch av;clear G;cases hr:(r==0)
   ·have cl:(r != 0)=XL:=(by simp[bne,hr]);have P:XN (bh b H j 0 f d=((r,⟨pf,pl,pc⟩),a9,d2)):=hR.out.trans (E.out hr);clear C E;go_wp2_with fail;refine(cJ t n _ (aL s p) (bA s p) _ _).mono ?_;rintro e w5 ⟨rfl,a⟩;have v:=Z.kept a (by simp);have a4:=h5.kept a (by simp);have i:=a.get hF (by simp);have D5:=D.Ur a;have T5:=T.Ur a;have Y:=TB.kept a (by simp);clear q0 q1 q2 q3 q4 q5 Z h5 hF D T TB a;obtain⟨q0,q1,q2,q3,q4,q5⟩:=v.cells;go_wp2_with fail;refine(a8.out _ D5 a4 Y).mono ?_;rintro e w6 ⟨rfl,H2,D6,M6,-⟩;have B:=M6.1.get i (by rintro (e | e | e);omega;omega;exact O e);have m3:=M6.fresh w.heap.size (ae i) O;have T7:=T5.word M6 (by omega);have a7:=ae B;have y6:=aw B;obtain⟨z0,z1,z2,z3⟩:=bI B;have q:XN _:=(fun a0 a1 a2 a3=>jX D6 T7 (F:=w.heap.size) (PQ _) (by omega) m3 a0 a1 a2 a3);clear q0 q1 q2 q3 q4 q5;go_wp2;exact Qg (v:=XB #[Xx XF r,Xy pf,Xx XF pl,Xx XF pc]) (by simp[results,results112,go_sem,a7,z0,z1,z2,z3]) rfl
     ⟨by rw[P.out];rfl,H2,by rw[P.out];exact(q.out _ _ _ _).1.Ur ((aa.refl [] _).alloc _),((q.out _ _ _ _).2.Ur ((aa.refl [] _).alloc _))⟩
   ·have cl:(r != 0)=XM:=(by simp[bne,hr]);have P:XN (bh b H j 0 f d=bh b M j z2 a9 d2):=hR.out.trans (C.out hr);clear C E;go_wp2_with fail;refine(cJ t n _ (aL s p) (bA s p) _ _).mono ?_;rintro e w5 ⟨rfl,a⟩;have v:=Z.kept a (by simp);have a4:=h5.kept a (by simp);have i:=a.get hF (by simp);have D5:=D.Ur a;have T5:=T.Ur a;have Y:=TB.kept a (by simp);clear q0 q1 q2 q3 q4 q5 Z h5 hF D T TB a;obtain⟨q0,q1,q2,q3,q4,q5⟩:=v.cells;go_wp2_with fail;refine(a8.out _ D5 a4 Y).mono ?_;rintro e w6 ⟨rfl,H2,D6,M6,cn⟩;have h6:=cn hr;have B:=M6.1.get i (by rintro (e | e | e);omega;omega;exact O e);have bp:gG w6 w4.heap.size n s ⟨t,0,XM,p⟩:=M6.1.get v (by rintro (e | e | e);omega;omega;exact bw e);have b6:bV w6 l S b o:=⟨M6.1.get Y.1 (by rintro (e | e | e);exact b2 e;exact b4 e;exact be e),Y.2⟩;have e1:=M6.fresh sp (ae a4) bv;have e2:=M6.fresh w4.heap.size (ae v) bw;have e3:=M6.fresh w.heap.size (ae i) O;have e4:=M6.fresh l Y.lt be;have T7:=T5.word M6 (by omega);have a7:=ae B;have cx:=ae bp;have c3:=ae h6;go_wp2_with fail;refine(ph sp z2 n s _ hs av.2 (by exact h6.kept ((aa.refl [] _).alloc _) (by simp))).mono ?_;rintro e w8 ⟨rfl,h8,ap⟩;have a6:=(bp.kept ((aa.refl [] _).alloc _) (by simp)).kept ap (by simp;omega);have b9:=ap.get (((aa.refl [] _).alloc _).get B (by simp)) (by simp;omega);have D8:=(D6.Ur ((aa.refl [] _).alloc _)).kept ap (by simp;omega) (by intro k hk;simp;rintro rfl;exact e1 hk);have b7:=(b6.kept ((aa.refl [] _).alloc _) (by simp)).kept ap (by simp;omega);have T8:=(T7.Ur ((aa.refl [] _).alloc _)).beyond ap (by simp;omega);have yy:=aw a6;have cz:=ae a6;clear q0 q1 q2 q3 q4 q5;obtain⟨q0,q1,q2,q3,q4,q5⟩:=a6.cells;simp only[dZ];go_wp2;go_roundg (s.size-z2)
    case measure=>omega
    case rel =>
     exact⟨z2,M,m2,a9,d2,H2,av.2,rfl,bq,bm,by omega,by omega,by omega,P.out,eY h8 (by omega) _ _ _ _ _ _,lS a6 _,qt b9 (by omega) _ _ _ _ _ _,
      D8.kept (oi _ _ _ _ _ _) (by simp;omega) (by intro k hk;simp;rintro rfl;exact e2 hk),b7.kept (oi _ _ _ _ _ _) (by simp;omega),T8.beyond (oi _ _ _ _ _ _) (by simp;omega),e1,e2,e3,e4⟩
theorem xm(g:∀j,j<b.length->(PH b j).size<=1024)(i:S≠l)(f:Nat):∀(j:Nat) (a:List Bool) (d:Db) (c:Nat->Hd) (w:XP) (m:Nat),j<b.length->a.length=4->jw d m->m+dn b a<=9000000->dn b a<=f->aO w l 186 (dm S a) [] d c->bV w S H b o->¬cD c S->gx l S b f j a d c w:=by
 induction f using Nat.strongRecOn with
 | _ f IH =>
  intro j a d c w m s e q t r h p k;cases n:a.getD j XL with
  | true=>exact tE l S f j b a e d c w (by have:=p.2;omega) h n
  | false=>exact ux l S H f b o g i IH j a d c w m s e q t r h p k n
end Go.Proofs.YtnbalopedcgpcaaGreat
