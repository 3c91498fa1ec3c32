import Derived.Test.YtnbalopedcgpcaaGreatG43
namespace Go.Proofs.YtnbalopedcgpcaaGreat
open Go.RowKit Tryz
open Value renaming int->Xx,string->Xy,slice->Xz,pointer->XA,tuple->XD
open IntKind renaming i64->XF
open Ending renaming returned->XH
open Option renaming none->XJ,some->XK
open Go.RowKit renaming Hid->XN
open Go renaming Calls->XO,World->XP
set_option maxHeartbeats 0
variable{n l:XP}{x:Nat}{v y:List ByteArray}{T:List iX}{S:Nat->Hd}{H:List St}{d:Int×List ByteArray->Prop}(b:Nat)(k:Fs)(w:List St)(f:Nat)
theorem jJ.gmAt{a:List cY}(h:jJ n l x v y a T S):pR l x y a T (S 0) (S 1):=by
 have c:aE l (S 1) (xr 163 4 MW T):=h.bag.own 1;refine⟨h.bag.blk,(aB.own h.bag 0).view,c.srcG (fun _=>rfl),?_,h.len,h.each⟩;rcases c.UC with ⟨-,b,-⟩ | ⟨g,d,f,i,e,-⟩
 ·have b:T.length=0:=b;omega
 ·exact e
theorem DY(b:dB H)(P:cY)(c:P∈dp H x):P.body.length<=10000/\P.vars.length<=10000:=by
 rcases Qo.1 c with h | h
 ·obtain⟨n,-,rfl⟩:=Qu.1 h;exact⟨by show 1<=_;omega,Qx _⟩
 ·obtain⟨n,-,rfl⟩:=Qu.1 h;refine⟨?_,?_⟩
  ·show((bL H n).Um.drop 1).length<=_
   rw[Rk];by_cases a:n<H.length
   ·rw[dO a];have:=b.syms n a;omega
   ·unfold bL;rw[QP (by omega)];show 0-1<=_;omega
  ·show((al H n).map _).length<=_
   rw[Qh];exact Qk (ia H n) b.len
theorem Jo:(dp w f).length<=w.length+f:=by
 unfold dp;rw[Qa,Qh,Qh];have b:=Q6 (fun h=>(bL w h).kind==2) (al w f);have a:=Q6 (fun n=>((bL w n).kind==4)&&j8 w n) (List.range f);rw[TG]at a;have:=ia w f;omega
theorem jJ.ct{a:Nat}{f:Hd}(h:jJ n l x (H.map ax) v (dp H a) T S)(g:dB H)(k:a<H.length)(j:cE l f y)(p:y.length<=10):xX l x f y v (dp H a) T (S 0) (S 1):=by
 have m:=g.len;have i:=Ek v _ h.dist h.sub;rw[Qh]at i;have o:v.length*(y.length+1)<=10000*11:=Q3 (by omega) (by omega);refine⟨h.gmAt,j,by omega,by omega,fun P b=>by have:=(DY g P b).1;omega,by have:=Jo H a;omega,h.dist,fun P b=>?_⟩;obtain⟨d,e,rfl⟩:=QN b;have c:d<T.length:=by rw[h.len];exact e
 exact⟨_,(h.each d T[d] _ (PJ c) (PJ e)).cod⟩
def MJ(rest:List ByteArray)(Ps:List cY)(code:ByteArray)(res:Int×List ByteArray):Prop:=if 10<rest.length then res=(3,[]) else qG rest Ps code res
def iC(l:List St)(lab code:ByteArray)(res:Int×List ByteArray):Prop:=match da l lab with
 | none=>res=(8,[])
 | some n=>MJ ((bL l n).Um.drop 1) (dp l n) code res
def GQ(Q:Int×List ByteArray->Prop)(w:XP)(e:Ending)(w':XP):Prop:=∃res,Q res/\O3 res.2 res.1 w e w'
theorem GQ.base{c:XP}{e:Ending}(h:GQ d l e c)(k:aa [] n l):GQ d n e c:=by
 obtain⟨a,g,f,i,j,m,o⟩:=h;exact⟨a,g,f,i,j,fun b e=>Qk k.size (m b e),k.trans o⟩
theorem xj(c:Int)(h:d (c,[]))(k:aa [] n l):GQ d n (XH (XD #[Xz XJ 0 0,Xx XF c])) l:=⟨(c,[]),h,XJ,rfl,⟨⟨fun _=>rfl,fun _=>rfl⟩,fun b e=>by cases e⟩,(fun b e=>by cases e),k⟩
set_option maxRecDepth 100000
theorem Co(n:Nat)(l:List St)(H:Nat->Hd)(d:Db)(Y:d.UD=l)(F:N6 d)(i:ByteArray)(w:XP)(h:cK w b f l H)(y:dB l)(x:n<l.length) :
  XO prog 18 #[XA (XK ⟨b,f,XJ⟩),Xx XF n,Xy i] w fun e m=>GQ (MJ (l[n].Um.drop 1) (dp l n) i) w e m:=by
 have N:=h.lt;have p:XN _:=aQ b f n l H w h x;have o:XN (∀c,aa [] w c->XO prog 52 #[bW l[n] (H (10+2*n)) (H (11+2*n))] c fun e m=>∃j:Hd,e=XH (Xz j.ao (l[n].Um.drop 1).length j.cap)/\cE m j (l[n].Um.drop 1)/\aa [] c m):=fun c q=>vP l[n] _ _ c ((h.Ur q).viewN n x) (by have:=y.syms n x;omega);have I:XN (∀c,aa [] w c->XO prog 53 #[XA (XK ⟨b,f,XJ⟩),Xx XF n] c fun e m=>Pc (l.map ax) (dp l n) c e m):=fun c q=>Ls b f n l H c (h.Ur q) y x;have K:XN (∀u a L t (j:Hd) T c,(l[n].Um.drop 1).length<=10->jJ T c u (l.map ax) a (dp l n) L t->cE c j (l[n].Um.drop 1)->XO prog 54 #[XA (XK ⟨u,0,XJ⟩),Xz j.ao (l[n].Um.drop 1).length j.cap,Xy i] c fun e m=>Oh (l[n].Um.drop 1) (dp l n) i c e m):=fun u a L t j T c ht g v =>
  uI u j (l[n].Um.drop 1) a (dp l n) L (t 0) (t 1) 10000 i c (g.ct y x v ht) (fun P M=>DZ (d:=d) F P (by rw[Y];exact M)) (fun P M=>(DY y P M).2) (by omega)
 unfold bW at p o;have Z:(l[n].Um.drop 1).length<=10000:=by rw[Rk];have:=y.syms n x;omega
 generalize l[n].Um.drop 1=k at *;generalize l[n]=s at *;clear h y;by_cases z:10<k.length
 ·have A:(k.length:Int) > 10:=by omega
  go_enter func18,ntmps18;go_wp2_with (first | (go_at_call 51;refine PU p.out ?_;rintro W w2 ⟨rfl,r⟩) | (go_at_call 52;refine PU (o.out _ r) ?_;rintro X D ⟨j,rfl,R,B⟩));go_ret2;exact xj 3 (by unfold MJ;rw[PZ z]) (r.trans B)
 ·have A:¬(k.length:Int) > 10:=by omega
  go_enter func18,ntmps18;go_upto_region 4 with (first | (go_at_call 51;refine PU p.out ?_;rintro W w2 ⟨rfl,r⟩) | (go_at_call 52;refine PU (o.out _ r) ?_;rintro X D ⟨j,rfl,R,B⟩))
  have S:b<D.heap.size:=PY N (r.trans B).size;have G:XN _:=I.out D (r.trans B);go_upto_region 5 with (go_at_call 53;refine PU G.out ?_;rintro e4 U ⟨u,a,L,t,rfl,C⟩)
  have J:XN _:=(K.out u a L t j D U (by omega) C (R.Ur C.kp));have E:XN (aa [] w U):=(r.trans B).trans C.kp;clear C R;go_wp2_with (go_at_call 54;refine PU J.out ?_;rintro e5 w5 ⟨Q,O,V,rfl,x5,n5,k5⟩);go_ret2;exact GQ.base ⟨Q,by unfold MJ;rw[PV z];exact O,V,rfl,x5,n5,k5⟩ E.out
set_option maxRecDepth 512
theorem AG(c a:ByteArray)(w:XP)(h:fy w b k) :
  XO prog 9 #[XA (XK ⟨b,0,XJ⟩),Xy c,Xy a] w fun e f=>GQ (fun d=>d=(7,[])) w e f:=by
 have g:XN (XO prog 17 #[XA (XK ⟨b,0,XJ⟩),Xy c] w fun e f=>e=XH (XD #[Xx XF 0,Xx XF 7])/\aa [] w f):=by
  show XO _ _ _ _ _;obtain⟨l,-⟩:=jg.cells h;have i:=bV.lt h;clear h;go_enter func17,ntmps17;go_wp2;go_ret2;exact⟨rfl,aa.refl _ _⟩
 clear h;go_enter func9,ntmps9;go_wp2_with (go_at_call 17;refine PU g.out ?_;rintro e m ⟨rfl,j⟩);go_ret2;exact xj 7 rfl j
theorem ud(H:Nat->Hd)(g:Nat)(d:Db)(D:d.UD=w)(F:N6 d)(c a:ByteArray)(o:XP)(h:fC o b k w H g)(A:dB w) :
  XO prog 9 #[XA (XK ⟨b,0,XJ⟩),Xy c,Xy a] o fun e q=>GQ (iC w c a) o e q:=by
 have y:=A.len;have m:=vU b k w H g c o h (by omega);have v:=h.anyR.lt;cases p:da w c with
 | none =>
  rw[p]at m;have j:XN _:=m;have B:XN (iC w c a (8,[])):=by show iC w c a (8,[]);unfold iC;rw[p]
  clear m h;go_enter func9,ntmps9;go_wp2_with (go_at_call 17;refine PU j.out ?_;rintro e f ⟨rfl,i⟩);go_ret2;exact xj 8 B.out i
 | some n =>
  rw[p]at m;obtain⟨z,L,-⟩:=sD p;have j:XN _:=m;have t:XN (∀f,aa [] o f->XO prog 18 #[XA (XK ⟨b,10,XJ⟩),Xx XF n,Xy a] f fun e q=>GQ (iC w c a) f e q):=fun f i=>by
   refine(Co b 10 n w H d D F a f (h.Ur i).recd A z).mono ?_;rintro e q ⟨l,x,G⟩;refine⟨l,?_,G⟩;unfold iC;rw[p];show MJ _ _ _ _;rw[dO z];exact x
  have u:XN (∀f,aa [] o f->b<f.heap.size):=fun f i=>PY v i.size;clear m h;go_enter func9,ntmps9;go_upto_region 4 with (go_at_call 17;refine PU j.out ?_;rintro e f ⟨rfl,i⟩)
  have E:=u.out f i;have s:XN _:=t.out f i;have r:XN _:=i;clear i;go_wp2_with (go_at_call 18;refine PU s.out ?_;rintro e M ⟨l,x,C,rfl,I,J,K⟩);go_ret2;exact GQ.base ⟨l,x,C,rfl,I,J,K⟩ r.out
end Go.Proofs.YtnbalopedcgpcaaGreat
