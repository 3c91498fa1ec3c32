import Derived.Test.YtnbalopedcgpcaaGreatG39
namespace Go.Proofs.YtnbalopedcgpcaaGreat
open Go.RowKit Tryz
open Value renaming int->Xx,string->Xy,slice->Xz,pointer->XA,agg->XB,bool->XC,tuple->XD
open Obj renaming cells->XE
open IntKind renaming i64->XF
open Ending renaming returned->XH
open World renaming cell?->XI
open Option renaming none->XJ,some->XK
open Bool renaming true->XL,false->XM
open Go.RowKit renaming Hid->XN
open Go renaming Calls->XO,World->XP,Value->XQ
set_option maxHeartbeats 0
variable{t:Nat->Nat}{T i N:Nat}{z4:Nat->Nat->Nat->Nat}{z5:ByteArray}{L p:XP}{z6:Hd}{z3:List ByteArray}{u:Nat->Nat×Nat}{M:cY}(o y:Nat)(d:Hd)(n l:List ByteArray)(x:List cY)(q:List iX)(z0 z1:Hd)(z2 D:Nat)(H:iX)(v:Nat)(m:Nat->Nat->Nat->Nat)(f:Nat)(s:XP)(I:Nat->Nat->Nat)
theorem M0{g:Nat->Nat}{n:Nat}(h:∀i,i<n->t i<=g i)(d:T<n)(f:t T<g T):sm t n<sm g n:=by
 induction n with
 | zero=>omega
 | succ n b =>
  show sm t n+t n<sm g n+g n;have c:=h n (by omega);by_cases e:T=n
  ·subst e;have:=JS (f:=t) (g:=g) (n:=T) (fun i a=>h i (by omega));omega
  ·have:=b (fun i a=>h i (by omega)) (by omega);omega
structure AV(G:Nat->Nat->Nat->Nat):Prop where
 two:∀k i j,G k i j<=2
 tri:∀k i j,j<i->G k i j=0
theorem AV.cg(h:AV z4)(a:List ByteArray):iZ (CG a z4):=fun c i j b=>by
 unfold CG;split
 ·exact h.tri _ _ _ b
 ·rfl
def mW(S:Nat)(G:Nat->Nat->Nat->Nat)(Fr:Nat->Nat->Nat)(b k E:Nat):Nat->Nat->Nat->Nat:=fun k' i e=>if(i=b/\e<S)/\(k'<k∨(k'=k/\e<E)) then Fr k' e else G k' i e
def Oa(S nc b:Nat)(G:Nat->Nat->Nat->Nat):Nat:=sm (fun k=>sm (fun e=>2-G k b e) S) nc
def OC(S nc b:Nat)(r:Bool)(G:Nat->Nat->Nat->Nat):Nat:=if r=XL then 1+Oa S nc b G else 0
section
variable {tx codes:List ByteArray} {Ps:List cY} {C:kn} {G:Nat->Nat->Nat->Nat} {b k e E S nc:Nat}
theorem DB:km tx Ps C codes b Ps.length k e=FC tx Ps C (codes.getD k ⟨#[]⟩) b e:=by unfold km;rw[QJ];rfl
theorem Iu(t:iZ C)(h:e<b):km tx Ps C codes b Ps.length k e=0:=by rw[DB];exact AU t _ b e h
theorem GU(a:∀P∈Ps,∃k,aZ codes P.code=XK k)(h:aZ codes z5=XJ)(i j:Nat):FC tx Ps C z5 i j=0:=by
 unfold FC;rw[Ed (fun P c=>?_)]
 ·rfl
 ·unfold om;split
  ·next q =>
   obtain⟨k,b⟩:=a P c;rw[ed q,h]at b;cases b
  ·rfl
theorem po{k:Nat}(h:aZ codes z5=XK k):codes.getD k ⟨#[]⟩=z5:=ed (by simpa using Rp h)
theorem MP(R:Es tx Ps (CG codes G) b)(c:ug codes)(f:k<codes.length)(d:e<tx.length+1):G k b e<=km tx Ps (CG codes G) codes b Ps.length k e:=by
 have a:aZ codes (codes.getD k ⟨#[]⟩)=XK k:=(qj c f _).2 (by simp);have:=R.up (codes.getD k ⟨#[]⟩) e d;rw[xW a]at this;rw[DB];exact this
theorem Om(a:AV G)(t:iZ C):AV (mW S G (km tx Ps C codes b Ps.length) b k E):=by
 refine⟨fun d i e=>?_,fun d i e c=>?_⟩
 ·unfold mW;split
  ·exact od
  ·exact a.two _ _ _
 ·unfold mW;split
  ·next h=>exact Iu t (by omega)
  ·exact a.tri _ _ _ c
theorem Nq(f:∀e,e<b->I (k+1) e=G (k+1) b e):mW S G I b (k+1) b=mW S G I b k S:=by
 funext k' i e
 unfold mW;by_cases a:(i=b/\e<S)/\(k'<k∨(k'=k/\e<S))
 ·rw[PZ a,PZ ⟨a.1,P0 (by omega)⟩]
 ·rw[PV a];split
  ·next c =>
   have d:k'=k+1/\e<b:=by
    rcases c.2 with q | q
    ·exact absurd ⟨c.1,by omega⟩ a
    ·exact q
   rw[d.1,c.1.1];exact f e d.2
  ·rfl
theorem Lp(c:∀e,e<b->I 0 e=G 0 b e):mW S G I b 0 b=G:=by
 funext k' i e
 unfold mW;split
 ·next h =>
  have a:k'=0/\e<b:=by omega
  rw[a.1,h.1.1];exact c e a.2
 ·rfl
theorem Dy:mW S G I b k E k b E=G k b E:=by unfold mW;rw[PV (by omega)]
theorem Lm(g:E<S)(a i e:Nat):mW S G I b k (E+1) a i e=if a=k/\i=b/\e=E then I k E else mW S G I b k E a i e:=by
 unfold mW;by_cases h:a=k/\i=b/\e=E
 ·rw[PZ h,PZ ⟨⟨h.2.1,by omega⟩,P7 ⟨h.1,by omega⟩⟩,h.1,h.2.2]
 ·rw[PV h];by_cases c:(i=b/\e<S)/\(a<k∨(a=k/\e<E))
  ·rw[PZ c,PZ ⟨c.1,by omega⟩]
  ·rw[PV c,PV];rintro ⟨d,f⟩;rcases f with q | q
   ·exact c ⟨d,P0 q⟩
   ·have:e≠E:=fun z=>h ⟨q.1,d.1,z⟩;exact c ⟨d,P7 ⟨q.1,by omega⟩⟩
theorem Lo(R:Es tx Ps (CG codes G) b)(e:b<tx.length+1)(a:∀P∈Ps,∃k,aZ codes P.code=XK k):Es tx Ps (CG codes (mW (tx.length+1) G (km tx Ps (CG codes G) codes b Ps.length) b codes.length b)) b:=by
 refine R.step e (fun c j f=>?_) (fun c i j h=>?_)
 ·cases d:aZ codes c with
  | none=>rw[GU a d];unfold CG;rw[d]
  | some k =>
   have g:k<codes.length:=Qe.1 (Qm d);rw[xW d];unfold mW;rw[PZ ⟨⟨rfl,f⟩,P0 g⟩,DB,po d]
 ·unfold CG;split
  ·unfold mW;rw[PV (by omega)]
  ·rfl
theorem Ln(R:Es tx Ps (CG codes G) b)(a:∀P∈Ps,∃k,aZ codes P.code=XK k)(i:∀k e,e<tx.length+1->k<codes.length->km tx Ps (CG codes G) codes b Ps.length k e=G k b e):ko tx Ps (CG codes G) b:=by
 refine R.done (fun c j f=>?_);cases d:aZ codes c with
 | none=>rw[GU a d];exact Qx _
 | some k =>
  have g:k<codes.length:=Qe.1 (Qm d);have:=i k j f g;rw[DB,po d]at this;rw[this,xW d];exact PQ _
theorem Ol(a:∀k e,e<S->k<nc->I k e=G k b e)(c:∀e,e<b->I nc e=G nc b e):mW S G I b nc b=G:=by
 funext k' i e
 unfold mW;split
 ·next h =>
  rw[h.1.1];rcases h.2 with q | q
  ·exact a k' e h.1.2 q
  ·rw[q.1];exact c e q.2
 ·rfl
theorem Lz(g:∀k e,I k e<=2)(f:∀k e,e<S->k<nc->G k b e<=I k e)(c:T<nc)(a:i<S)(j:G T b i<I T i):Oa S nc b (mW S G I b nc b)<Oa S nc b G:=by
 unfold Oa;have d:∀k e,k<nc->e<S->mW S G I b nc b k b e=I k e:=fun k e c a=>by unfold mW;rw[PZ ⟨⟨rfl,a⟩,P0 c⟩]
 refine M0 (fun k c=>JS (fun e a=>?_)) c (M0 (fun e a=>?_) a ?_)
 ·rw[d k e c a];have:=f k e a c;omega
 ·rw[d T e c a];have:=f T e a c;omega
 ·rw[d T i c a];have:=g T i;omega
end
theorem dR.ne{a b:Nat}(h:dR L T i z6 z3 N a b z4):T≠a:=by
 rintro rfl;have:=h.blk;rw[show L.heap[T]?=XK (XE (fV (iq (b*(z3.length+1)) (z3.length+1) (qP (z3.length+1) z4))).toArray 3) from h.cnt.arr]at this;simp only[Option.some.injEq,Obj.cells.injEq]at this;exact absurd this.2.1 (by decide)
theorem yq(p:Nat->Nat->Nat->Nat)(k b e:Nat)(c:Int)(w:XP)(h:dR w o y d l z2 D v m)(J:v*(l.length+1)<=1000000)(O:l.length<=100)(G:k<v)(f:b<l.length+1)(E:e<l.length+1)(K:m k b e<=2)(I:-2<=c/\c<=4)(B:∀n i j,n<v->i<l.length+1->j<l.length+1->p n i j=if n=k/\i=b/\j=e then qY (m k b e) c else m n i j) :
  XO prog 127 #[XA (XK ⟨z2,0,XJ⟩),Xx XF (k*(l.length+1)+b:Nat),Xx XF e,Xx XF c] w fun s r=>s=XH (XC (decide (0<c) && !(m k b e==2)))/\dR r o y d l z2 D v p/\aa [D] w r:=by
 have t:qP (l.length+1) m (k*(l.length+1)+b) e=m k b e:=by unfold qP;rw[lO f,lP f]
 refine(qk z2 D (v*(l.length+1)) (l.length+1) (qP (l.length+1) m) (k*(l.length+1)+b) e c w h.cnt J (by omega) (mA G f) E (by rw[t];exact K) I).mono ?_;rintro s r ⟨g,x,u⟩;rw[t]at g x;refine⟨g,⟨u.get h.blk (by simpa using h.ne),x.ext (fun a j H F=>?_)⟩,u⟩;have C:0<l.length+1:=by omega
 have z:a / (l.length+1)<v:=Tk (by rw[R6];exact H);have A:a % (l.length+1)<l.length+1:=Nat.mod_lt _ C;show _=p (a / (l.length+1)) (a % (l.length+1)) j;rw[B _ _ _ z A F];unfold iW;by_cases q:a=k*(l.length+1)+b/\j=e
 ·rw[PZ q,q.1,lO f,lP f,PZ ⟨rfl,rfl,q.2⟩]
 ·rw[PV q,PV]
  ·rfl
  ·rintro ⟨L,M,N⟩;have:=Nat.div_add_mod a (l.length+1);rw[L,M,R6]at this;exact q ⟨this.symm,N⟩
structure xX(w:XP)(gm:Nat)(hs:Hd)(tx codes:List ByteArray)(Ps:List cY)(L:List iX)(hc hp:Hd):Prop where
 gm:pR w gm codes Ps L hc hp
 vw:cE w hs tx
 hn:codes.length*(tx.length+1)<=1000000
 ht:tx.length<=100
 bl:∀P∈Ps,P.body.length<=100000
 pl:Ps.length<=100000
 dist:ug codes
 cov:∀P∈Ps,∃k,aZ codes P.code=XK k
theorem xX.Ur{a:List ByteArray}{c:List cY}{b:List iX}{d e:Hd}(h:xX L T z6 z3 a c b d e)(k:aa [] L p):xX p T z6 z3 a c b d e:=⟨h.gm.Ur k,h.vw.Ur k,h.hn,h.ht,h.bl,h.pl,h.dist,h.cov⟩
theorem ka{b:XP}(k:aa [] L p)(q:aa [T] p b)(c:L.heap.size<=T):aa [] L b :=
 ⟨q.os.trans k.os,q.tape.trans k.tape,q.output.trans k.output,Qk k.size q.size,fun i a _=>(q.block i (PY a k.size) (by simp;omega)).trans (k.block i a (by simp))⟩
structure rY(w wx:XP)(c gm:Nat)(hs:Hd)(tx:List ByteArray)(cg ca g a nc:Nat)(G:Nat->Nat->Nat->Nat)(Fr:Nat->Nat->Nat)(b k E:Nat)(rs:Bool):Prop where
 ch:dR wx c gm hs tx cg ca nc (mW (tx.length+1) G Fr b k E)
 yes:rs=XL->∃k' e,k'<nc/\e<tx.length+1/\G k' b e<Fr k' e
 no:rs=XM->∀k' e,e<tx.length+1->(k'<k∨(k'=k/\e<E))->Fr k' e=G k' b e
 kp:aa [ca] w wx
 fr:bC wx g a nc (tx.length+1) Fr
section
variable {w wr wx w':XP} {c gm cg ca g a nc b k E:Nat} {hs:Hd} {tx:List ByteArray} {G:Nat->Nat->Nat->Nat} {Fr:Nat->Nat->Nat} {rs:Bool}
theorem rY.next(H:rY w wr c gm hs tx cg ca g a nc G Fr b k E rs)(j:aa [] wr wx)(l:aa [ca] wx w')(n:dR w' c gm hs tx cg ca nc (mW (tx.length+1) G Fr b k (E+1)))(d:g≠ca/\a≠ca)(p:k<nc)(m:E<tx.length+1)(s:G k b E<=Fr k E):rY w w' c gm hs tx cg ca g a nc G Fr b k (E+1) (rs||decide (G k b E<Fr k E)):=by
 refine⟨n,fun q=>?_,fun q i e o r=>?_,(H.kp.trans (j.mono (by simp))).trans l,(H.fr.Ur j).kept l (by simpa using d.1) (by simpa using d.2)⟩
 ·rcases Bool.or_eq_true_iff.1 q with q | q
  ·exact H.yes q
  ·exact⟨k,E,p,m,by simpa using q⟩
 ·rw[Sq]at q;have t:¬G k b E<Fr k E:=by simpa using q.2
  by_cases f:i=k/\e=E
  ·rw[f.1,f.2];omega
  ·exact H.no q.1 i e o (by omega)
theorem rY.row(H:rY w wr c gm hs tx cg ca g a nc G Fr b k (tx.length+1) rs)(d:∀e,e<b->Fr (k+1) e=G (k+1) b e):rY w wr c gm hs tx cg ca g a nc G Fr b (k+1) b rs:=by
 refine⟨by rw[Nq Fr d];exact H.ch,H.yes,fun q f e j l=>?_,H.kp,H.fr⟩;by_cases i:f=k+1
 ·rw[i];exact d e (by omega)
 ·exact H.no q f e j (by omega)
end
set_option maxRecDepth 100000
theorem Im(w:XP)(C:xX s y d n l x q z0 z1)(K0:aa [] s w)(az:s.heap.size<=v)(h:dR w o y d n D v l.length m)(av:AV m)(a4:ko n x (CG l m) (f+1))(hb:f<n.length+1) :
  XO prog 105 #[XA (XK ⟨o,0,XJ⟩),Xx XF f] w fun e z=>e=XH (XD #[])/\∃G',dR z o y d n D v l.length G'/\AV G'/\ko n x (CG l G') f/\aa [v] w z:=by
 have bg:XN (∀(G:Nat->Nat->Nat->Nat) (b:XP),dR b o y d n D v l.length G->AV G->aa [v] w b->XO prog 126 #[XA (XK ⟨o,0,XJ⟩),Xx XF f] b fun e z=>∃g a,e=XH (XA (XK ⟨g,0,XJ⟩))/\bC z g a l.length (n.length+1) (km n x (CG l G) l f x.length)/\b.heap.size<=g/\b.heap.size<=a/\aa [] b z):=fun G b h1 h2 c=>by
  have k:=ka K0 c az;exact Cw o y d n l x q z0 z1 D v G f b (C.gm.Ur k) h1 (C.vw.Ur k) C.hn C.ht C.bl C.pl C.dist hb h2.two (h2.cg l)
 have a7:XN (∀b,aa [v] w b->XO prog 104 #[XA (XK ⟨y,0,XJ⟩)] b fun e z=>e=XH (Xx XF l.length)/\z=b):=fun b c=>pZ y l x q z0 z1 b (C.gm.Ur (ka K0 c az));have bq:=h.ne;have F:XN (∀b,aa [v] w b->XI b ⟨o,0,XJ⟩=XK (XA (XK ⟨y,0,XJ⟩))/\XI b ⟨o,2,XJ⟩=XK (Xx XF (n.length+1:Nat))/\XI b ⟨o,3,XJ⟩=XK (XA (XK ⟨D,0,XJ⟩))/\o<b.heap.size):=fun b c=>by
  have B:=c.get h.blk (by simpa using bq);refine⟨?_,?_,?_,ae B⟩ <;> (rw[ab B];rfl)
 have cb:=h.cnt.lt.2;have aq:XN (∀(G:Nat->Nat->Nat->Nat) (k E:Nat) (b:XP),AV G->Es n x (CG l G) f->dR b o y d n D v l.length (mW (n.length+1) G (km n x (CG l G) l f x.length) f k E)->k<l.length->E<n.length+1->XO prog 127 #[XA (XK ⟨D,0,XJ⟩),Xx XF (k*(n.length+1)+f:Nat),Xx XF E,Xx XF ((km n x (CG l G) l f x.length k E:Int)-G k f E)] b fun e' z=>e'=XH (XC (decide (G k f E<km n x (CG l G) l f x.length k E)))/\dR z o y d n D v l.length (mW (n.length+1) G (km n x (CG l G) l f x.length) f k (E+1))/\aa [v] b z):=fun G k E b g1 g2 g3 hk hE=>by
  have u:=MP g2 C.dist hk hE;have t2:km n x (CG l G) l f x.length k E<=2:=od;have gt:=g1.two k f E;generalize hFr:km n x (CG l G) l f x.length=p at *;have bk:qY (G k f E) ((p k E:Int)-G k f E)=p k E:=by
   unfold qY;split
   ·rw[show((p k E:Int)-(G k f E:Int)).toNat=p k E-G k f E by omega,show G k f E+(p k E-G k f E)=p k E by omega,lj t2]
   ·omega
  refine(yq o y d n D v l.length (mW (n.length+1) G p f k E) (mW (n.length+1) G p f k (E+1)) k f E _ b g3 C.hn C.ht hk hb hE (by rw[Dy];exact gt) (by omega) (fun k' i j _ _ _=>?_)).mono ?_
  ·rw[Dy,bk];exact Lm p hE k' i j
  ·rintro e' z ⟨t,ad,hK⟩;rw[Dy]at t;refine⟨?_,ad,hK⟩;rw[t];have e1:(decide (0<(p k E:Int)-(G k f E:Int)) && !(G k f E==2))=decide (G k f E<p k E):=by
    by_cases c:G k f E<p k E
    ·have q1:(0:Int)<(p k E:Int)-(G k f E:Int):=(by omega);have q2:(G k f E==2)=XM:=Qi.2 (by omega);rw[SV c,SV q1,q2];rfl
    ·have q1:¬(0:Int)<(p k E:Int)-(G k f E:Int):=(by omega);rw[RY c,RY q1];rfl
   rw[e1]
 have a6:XN (∀(G:Nat->Nat->Nat->Nat) (k E:Nat) (b:XP),dR b o y d n D v l.length G->k<l.length->E<n.length+1->XO prog 83 #[XA (XK ⟨o,0,XJ⟩),Xx XF k,XB #[Xx XF f,Xx XF E]] b fun e' z=>e'=XH (Xx XF (G k f E))/\aa [] b z):=fun G k E b g1 hk hE=>lH o y d n D v l.length G k f E b g1 C.hn C.ht hk hb hE;have P:XN _:=C;have bf:XN _:=a4.row;have a9:XN _:=av;have a5:XN _:=h;have bs:l.length<=1000000:=Qk (RU _ (RK _)) C.hn;have co:=C.ht;obtain⟨S,HS⟩:∃S,XN (n.length+1=S):=⟨_,rfl⟩
 have b9:f<S:=by rw[<-HS.out];exact hb
 rw[HS.out]at F;clear C K0 h av a4;go_enter func105,ntmps105;go_wp2
 go_loopg [4] (OC (n.length+1) l.length f XL m) (fun gk rv wr=>∃(N:Bool) (G:Nat->Nat->Nat->Nat),rv=XC N/\gk=OC (n.length+1) l.length f N G/\XN (dR wr o y d n D v l.length G)/\XN (AV G)/\XN (Es n x (CG l G) f)/\XN (N=XM->ko n x (CG l G) f)/\XN (aa [v] w wr))
 case atStart=>exact⟨XL,m,rfl,rfl,a5,a9,bf,(fun c=>by cases c),aa.refl _ _⟩
 case round =>
  obtain⟨N,G,rfl,a3,HC,R,HR,HP,HK⟩:=hrel;cases N
  ·go_wp2;go_end0;exact⟨rfl,G,HC.out,R.out,by first | exact HP.out rfl | exact HP.out trivial,HK.out⟩
  ·have ac:XN _:=bg.out G _ HC.out R.out HK.out;have J:XN (∀k e,e<f->km n x (CG l G) l f x.length k e=G k f e):=fun k e t=>by rw[Iu (R.out.cg l) t,R.out.tri k f e t]
   have ap:XN _:=aq.out G;have V:XN (∀k e,km n x (CG l G) l f x.length k e<=2):=fun k e=>od;have W:XN (∀k e,e<n.length+1->k<l.length->G k f e<=km n x (CG l G) l f x.length k e):=fun k e t hk=>MP HR.out P.out.dist hk t;have ai:XN (∀k E,AV (mW (n.length+1) G (km n x (CG l G) l f x.length) f k E)):=fun k E=>Om R.out (R.out.cg l);have am:XN (Es n x (CG l (mW (n.length+1) G (km n x (CG l G) l f x.length) f l.length f)) f):=Lo HR.out hb P.out.cov;have ah:XN ((∀k e,e<n.length+1->k<l.length->km n x (CG l G) l f x.length k e=G k f e)->ko n x (CG l G) f):=fun c=>Ln HR.out P.out.cov c;obtain⟨p,ao⟩:∃p,XN (km n x (CG l G) l f x.length=p):=⟨_,rfl⟩
   rw[ao.out]at ac J ap V W ai am ah;(go_upto_region 4 with (go_at_call 126;refine PU ac.out ?_;rintro e1 w1 ⟨g,a,rfl,a2,lg,la,k1⟩));have a0:=HC.out.cnt.lt.2;have bv:g≠v/\a≠v:=by omega
   have a8:XN (rY w w1 o y d n D v g a l.length G p f 0 f XM):=⟨by rw[Lp p (fun e t=>J.out 0 e t)];exact HC.out.Ur k1,(fun c=>by cases c),fun _ k' e t c=>by
    rcases c with c | c
    ·omega
    ·rw[c.1];exact J.out 0 e c.2,HK.out.trans (k1.mono (by simp)),a2⟩
   clear a2 lg la k1 a0 ac ao;go_wp2
   go_loopg [4,6] l.length (fun bm bw kv b0=>∃(k:Nat) (N:Bool),k<=l.length/\bm=l.length-k/\bw=XC N/\kv=Xx XF k/\XN (rY w b0 o y d n D v g a l.length G p f k f N))
   case atStart=>exact⟨0,XM,by omega,rfl,rfl,rfl,a8⟩
   case round =>
    obtain⟨k,N,hk,b4,rfl,rfl,O⟩:=hrel;have T:XN _:=a7.out _ O.out.kp;obtain⟨c0,-,-,b2⟩:=F.out _ O.out.kp;by_cases I:k<l.length
    ·have cf:(k:Int)<l.length:=(by omega);(go_upto_region 7 with (go_at_call 104;refine PU T.out ?_;rintro e2 w2 ⟨rfl,A⟩;rw[A];clear A));go_wp2
     go_loopg [4,7] (S-f) (fun g3 bx ev b1=>∃(E:Nat) (H:Bool),f<=E/\E<=S/\g3=S-E/\bx=XC H/\ev=Xx XF E/\XN (rY w b1 o y d n D v g a l.length G p f k E H))
     case atStart=>exact⟨f,N,by omega,by omega,rfl,rfl,rfl,O⟩
     case round =>
      obtain⟨E,H,b8,b5,cd,rfl,rfl,Q⟩:=hrel;obtain⟨-,c2,c3,b3⟩:=F.out _ Q.out.kp;by_cases bo:E<S
      ·have b6:(E:Int)<(S:Int):=(by omega);have K:E<n.length+1:=(by rw[HS.out];exact bo);have HA:XN _:=(uM g a l.length (n.length+1) p k E _ Q.out.fr bs (by omega) I K);have U:XN _:=a6.out _ k E _ Q.out.ch I K;rw[Dy]at U;have hu:=W.out k E K I;have cs:=V.out k E;have r:XN (∀b,aa [] wr b->XO prog 127 #[XA (XK ⟨D,0,XJ⟩),Xx XF (k*(n.length+1)+f:Nat),Xx XF E,Xx XF ((p k E:Int)-G k f E)] b fun e' z=>e'=XH (XC (decide (G k f E<p k E)))/\rY w z o y d n D v g a l.length G p f k (E+1) (H||decide (G k f E<p k E))):=fun b c=>by
        refine(ap.out k E b R.out HR.out (Q.out.ch.Ur c) I K).mono ?_;rintro e' z ⟨t,ad,bp⟩;exact⟨t,Q.out.next c bp ad bv I K hu⟩
       generalize p k E=v1 at *;generalize G k f E=v2 at *;rw[HS.out]at r;obtain⟨c,hq⟩:∃c,k*S=c:=⟨_,rfl⟩
       have cl:(k:Int)*(S:Int)=(c:Int):=(by rw[<-hq];simp);have cn:c<=1000000:=(by rw[<-hq,<-HS.out];exact Qk (RS _ (QU I)) P.out.hn);rw[hq]at r;simp only[Int.natCast_add]at r;have ct:IntKind.i64.wrap (c:Int)=(c:Int):=by rw[Re];omega
       have A:IntKind.i64.wrap ((c:Int)+(f:Int))=(c:Int)+(f:Int):=(by rw[Re];omega);have ag:XN _:=Q.out.kp;clear hq Q;cases hl:decide (v2<v1)
       ·rw[hl,Tb]at r;(go_upto_region 11 with (first | (go_at_call 106;refine PU HA.out ?_;rintro e3 w3 ⟨rfl,M⟩;rw[M];clear M) | (go_at_call 83;refine PU U.out ?_;rintro e4 w4 ⟨rfl,k4⟩)));obtain⟨-,d2,d3,a1⟩:=F.out _ (ag.out.trans (k4.mono (by simp)));have Y:XN _:=k4;clear k4;go_region_held3 (fun z=>XI z ⟨o,2,XJ⟩=XK (Xx XF S)/\XI z ⟨o,3,XJ⟩=XK (XA (XK ⟨D,0,XJ⟩))) (go_keep) ((go_at_call 127;refine PU (r.out _ (by exact Y.out.drew)) ?_;rintro e5 w5 ⟨rfl,h5⟩;obtain⟨-,y2,y3,y4⟩:=F.out w5 h5.kp));go_wp2;go_roundg (S-(E+1))
        case measure=>omega
        case rel=>exact⟨E+1,H,by omega,by omega,rfl,rfl,by go_num,h5⟩
       ·rw[hl,Bool.or_true]at r;(go_upto_region 11 with (first | (go_at_call 106;refine PU HA.out ?_;rintro e3 w3 ⟨rfl,M⟩;rw[M];clear M) | (go_at_call 83;refine PU U.out ?_;rintro e4 w4 ⟨rfl,k4⟩)));obtain⟨-,d2,d3,a1⟩:=F.out _ (ag.out.trans (k4.mono (by simp)));have Y:XN _:=k4;clear k4;go_region_held3 (fun z=>XI z ⟨o,2,XJ⟩=XK (Xx XF S)/\XI z ⟨o,3,XJ⟩=XK (XA (XK ⟨D,0,XJ⟩))) (go_keep) ((go_at_call 127;refine PU (r.out _ (by exact Y.out.drew)) ?_;rintro e5 w5 ⟨rfl,h5⟩;obtain⟨-,y2,y3,y4⟩:=F.out w5 h5.kp));go_wp2;go_roundg (S-(E+1))
        case measure=>omega
        case rel=>exact⟨E+1,XL,by omega,by omega,rfl,rfl,by go_num,h5⟩
      ·have b7:¬(E:Int)<(S:Int):=(by omega);have bd:XN (rY w wr o y d n D v g a l.length G p f (k+1) f H):=by
        have:=Q.out;rw[show E=n.length+1 by have:=HS.out;omega]at this;exact this.row (fun e t=>J.out (k+1) e t)
       go_wp2;go_roundg (l.length-(k+1))
       case measure=>omega
       case rel=>exact⟨k+1,H,by omega,rfl,rfl,by go_num,bd⟩
    ·have cj:¬(k:Int)<l.length:=(by omega);obtain rfl:k=l.length:=(by omega);cases N
     ·have X:XN (dR wr o y d n D v l.length G):=by
       have:=O.out.ch;rw[Ol p (fun k' e t L=>O.out.no rfl k' e t (P0 L)) (fun e t=>J.out _ e t)]at this;exact this
      have be:XN (ko n x (CG l G) f):=ah.out (fun k' e t L=>O.out.no rfl k' e t (P0 L));have Z:XN _:=O.out.kp;go_wp2_with (go_at_call 104;refine PU T.out ?_;rintro e2 w2 ⟨rfl,A⟩;rw[A];clear A);go_roundg 0
      case measure=>rw[a3];unfold OC;rw[PZ rfl];omega
      case rel=>exact⟨XM,G,rfl,rfl,X,R,HR,fun _=>be.out,Z⟩
     ·have X:XN (dR wr o y d n D v l.length (mW (n.length+1) G p f l.length f)):=O.out.ch;have bc:XN (Oa (n.length+1) l.length f (mW (n.length+1) G p f l.length f)<Oa (n.length+1) l.length f G):=by
       obtain⟨k',e,L,t,hl⟩:=O.out.yes rfl;exact Lz p V.out W.out L t hl
      have Z:XN _:=O.out.kp;go_wp2_with (go_at_call 104;refine PU T.out ?_;rintro e2 w2 ⟨rfl,A⟩;rw[A];clear A);go_roundg (OC (n.length+1) l.length f XL (mW (n.length+1) G p f l.length f))
      case measure=>rw[a3];unfold OC;rw[PZ rfl,PZ rfl];have:=bc.out;omega
      case rel=>exact⟨XL,_,rfl,rfl,X,ai.out _ _,am,(fun c=>by cases c),Z⟩
theorem xb(r:xX s y d n l x q z0 z1) :
  XO prog 81 #[XA (XK ⟨y,0,XJ⟩),Xz d.ao n.length d.cap] s fun e u=>∃c a g G,e=XH (XA (XK ⟨c,0,XJ⟩))/\dR u c y d n a g l.length G/\AV G/\uL n x (CG l G)/\aa [] s u:=by
 have z:XN _:=pZ y l x q z0 z1 s r.gm;have hn:=r.hn;have ht:=r.ht;have f:XN _:=(lW (l.length*(n.length+1)) (n.length+1) s r.hn (by omega));have O:XN _:=r;clear r;obtain⟨S,C⟩:∃S,XN (n.length+1=S):=⟨_,rfl⟩
 rw[C.out]at hn f;obtain⟨t,I⟩:∃t,l.length*S=t:=⟨_,rfl⟩
 have ah:(l.length:Int)*(S:Int)=(t:Int):=by rw[<-I];simp
 rw[I]at hn f;have P:(n.length:Int)+1=(S:Int):=by rw[<-C.out];simp
 have HQ:XN _:=I;clear I;go_enter func81,ntmps81;go_upto_region 3 with (first | (go_at_call 104;refine PU z.out ?_;rintro e1 w1 ⟨rfl,E⟩;rw[E];clear E) | (go_at_call 103;refine PU f.out ?_;rintro e2 J ⟨a,g,rfl,D,lg,la,k2⟩))
 obtain⟨H,k⟩:∃W,XN (J.alloc (XE #[XA (XK ⟨y,0,XJ⟩),Xz d.ao n.length d.cap,Xx XF S,XA (XK ⟨a,0,XJ⟩)] 173)=W):=⟨_,rfl⟩
 have K:H.heap[J.heap.size]?=XK (XE #[XA (XK ⟨y,0,XJ⟩),Xz d.ao n.length d.cap,Xx XF S,XA (XK ⟨a,0,XJ⟩)] 173):=by rw[<-k.out];exact PM _ _
 have o:aa [] J H:=by rw[<-k.out];exact(aa.refl [] _).alloc _
 obtain⟨c,w⟩:∃c,XN (J.heap.size=c):=⟨_,rfl⟩
 rw[w.out]at K;have L:XN (dR H c y d n a g l.length (fun _ _ _=>0)):=⟨by rw[C.out];exact K,by rw[C.out,HQ.out];exact D.Ur o⟩;have N:XN (aa [] s H):=k2.trans o;have A:XN _:=la;have B:XN (ko n x (CG l (fun _ _ _=>0)) (n.length+1)):=by
  have e:CG l (fun _ _ _=>0)=fun _ _ _=>0:=by funext c i j;unfold CG;split <;> rfl
  show ko n x (CG l (fun _ _ _=>0)) (n.length+1);rw[e];exact ko.first
 have X:XN (∀(G:Nat->Nat->Nat->Nat) (b:Nat) (F:XP),dR F c y d n a g l.length G->AV G->ko n x (CG l G) (b+1)->b<n.length+1->aa [] s F->XO prog 105 #[XA (XK ⟨c,0,XJ⟩),Xx XF b] F fun e u=>e=XH (XD #[])/\∃v,dR u c y d n a g l.length v/\AV v/\ko n x (CG l v) b/\aa [] s u):=fun G b F g1 g2 g3 hb t=>by
  refine(Im c y d n l x q z0 z1 a g G b s F O.out t A.out g1 g2 g3 hb).mono ?_;rintro e u ⟨he,v,Q,R,T,U⟩;exact⟨he,v,Q,R,T,ka t U A.out⟩
 rw[k.out,w.out];rw[C.out]at B X;clear D lg la k2 o K z f;go_wp2
 go_loopg [7] S (fun gk bv wr=>∃(p:Nat) (G:Nat->Nat->Nat->Nat),p<=S/\gk=p/\bv=Xx XF ((p:Int)-1)/\XN (dR wr c y d n a g l.length G)/\XN (AV G)/\XN (ko n x (CG l G) p)/\XN (aa [] s wr))
 case atStart=>exact⟨S,_,PQ _,rfl,by rw[<-P];simp,L,⟨fun _ _ _=>Qx _,fun _ _ _ _=>rfl⟩,B,N⟩
 case round =>
  obtain⟨p,G,ag,ac,rfl,V,Y,HP,Z⟩:=hrel;cases p with
  | zero =>
   go_wp2;go_ret;exact⟨c,a,g,G,rfl,V.out,Y.out,HP.out.done,Z.out⟩
  | succ m =>
   have hm:((m+1:Nat):Int)-1=(m:Int):=(by omega);rw[hm];have ad:(m:Int) ≥ 0:=by omega
   have M:XN _:=(X.out G m _ V.out Y.out HP.out (by omega) Z.out);go_wp2_with (go_at_call 105;refine PU M.out ?_;rintro e4 w4 ⟨rfl,G4,Q,R,T,U⟩);go_roundg m
   case measure=>omega
   case rel=>exact⟨m,G4,by omega,rfl,by go_num,Q,R,T,U⟩
theorem ym(f:Nat->Nat)(F:Nat->Nat)(k q c S:Nat)(w:XP)(hS:S<=101)(n:∀x b,x<S->aa [] w b->XO prog 106 #[XA (XK ⟨D,0,XJ⟩),Xx XF k,Xx XF x] b fun e r=>e=XH (Xx XF (f x))/\r=b)(j:∀x b,x<S->aa [] w b->XO prog 129 #[XA (XK ⟨z2,0,XJ⟩),rq H,Xx XF k,XB #[Xx XF x,Xx XF c]] b fun e r=>e=XH (Xx XF (F x))/\aa [] b r)(hq:q<=c)(V:c<S)(g:0<f q/\0<F q)(o:∀x,x<S->x≠q->0<f x->F x=0) :
  XO prog 150 #[XA (XK ⟨z2,0,XJ⟩),rq H,XA (XK ⟨D,0,XJ⟩),Xx XF k,Xx XF c] w fun e r=>e=XH (Xx XF q)/\aa [] w r:=by
 unfold rq at j ⊢;obtain⟨W,B⟩:∃W,XN (w.alloc (XE #[Xy H.label,Xx XF H.code,Xz (XK ⟨H.ap,0,XJ⟩) H.np H.np,Xz H.ag H.gs.length H.gs.length] 163)=W):=⟨_,rfl⟩
 have N:aa [] w W:=by rw[<-B.out];exact(aa.refl [] _).alloc _
 have J:W.heap[w.heap.size]?=XK (XE #[Xy H.label,Xx XF H.code,Xz (XK ⟨H.ap,0,XJ⟩) H.np H.np,Xz H.ag H.gs.length H.gs.length] 163):=by
  rw[<-B.out];exact PM _ _
 have m:XN (∀b,aa [] W b->(XI b ⟨w.heap.size,0,XJ⟩=XK (Xy H.label)/\XI b ⟨w.heap.size,1,XJ⟩=XK (Xx XF H.code)/\XI b ⟨w.heap.size,2,XJ⟩=XK (Xz (XK ⟨H.ap,0,XJ⟩) H.np H.np)/\XI b ⟨w.heap.size,3,XJ⟩=XK (Xz H.ag H.gs.length H.gs.length))/\w.heap.size<b.heap.size):=fun b q=>by
  have I:=q.get J (by simp);refine⟨⟨?_,?_,?_,?_⟩,ae I⟩ <;> (rw[ab I];rfl)
 have y:XN _:=n;have z:XN _:=j;have d:XN _:=N;have A:XN _:=o;have C:XN _:=g;obtain⟨O,l⟩:∃O,XN (w.heap.size=O):=⟨_,rfl⟩
 rw[l.out]at m;clear n j N o g J;go_enter func150,ntmps150;go_upto_region 1 with fail
 rw[B.out,l.out];go_wp2
 go_loopg [11] (c+1) (fun gk xv wr=>∃x:Nat,x<=q/\gk=c+1-x/\xv=Xx XF x/\XN (aa [] W wr))
 case atStart=>exact⟨0,by omega,rfl,rfl,aa.refl _ _⟩
 case round =>
  obtain⟨x,hx,R,rfl,i⟩:=hrel;obtain⟨⟨p0,p1,p2,p3⟩,U⟩:=m.out _ i.out;by_cases T:x<c
  ·have Z:(x:Int)<(c:Int):=(by omega);have t:XN _:=(y.out x _ (by omega) (d.out.trans i.out));have s:XN _:=z.out x _ (by omega) (d.out.trans i.out);by_cases p:x=q
   ·subst p;obtain⟨ad,ah⟩:=C.out;generalize f x=v at *;generalize F x=u at *;have Y:(v:Int) > 0:=(by omega);have M:(u:Int) > 0:=(by omega);go_wp2_with (first | (go_at_call 106;refine PU t.out ?_;rintro L P ⟨rfl,a⟩;rw[a];clear a) | (go_at_call 129;refine PU s.out ?_;rintro Q w4 ⟨rfl,G⟩));go_ret;exact⟨rfl,(d.out.trans i.out).trans G⟩
   ·have K:=A.out x (by omega) p;generalize f x=v at *;by_cases E:v=0
    ·subst E;clear s K;go_wp2_with (go_at_call 106;refine PU t.out ?_;rintro L P ⟨rfl,a⟩;rw[a];clear a);go_roundg (c+1-(x+1))
     case measure=>omega
     case rel=>exact⟨x+1,by omega,rfl,by go_num,i⟩
    ·have Y:(v:Int) > 0:=(by omega);have M:=K (by omega);rw[M]at s;go_wp2_with (first | (go_at_call 106;refine PU t.out ?_;rintro L P ⟨rfl,a⟩;rw[a];clear a) | (go_at_call 129;refine PU s.out ?_;rintro Q w4 ⟨rfl,G⟩));go_roundg (c+1-(x+1))
     case measure=>omega
     case rel=>exact⟨x+1,by omega,rfl,by go_num,i.out.trans G⟩
  ·have ac:¬(x:Int)<(c:Int):=(by omega);have X:c=q:=(by omega);go_wp2;go_ret;exact⟨rfl,d.out.trans i.out⟩
def iY(w:XP)(a n:Nat)(f:Nat->Nat×Nat):Prop:=∃cur:Array XQ,w.heap[a]?=XK (XE cur 141)/\cur.size=n*2/\∀v,v<n->cur[v*2]?=XK (Xx XF (f v).1)/\cur[v*2+1]?=XK (Xx XF (f v).2)
theorem iY.kept{S:List Nat}(h:iY L T i u)(k:aa S L p)(d:T∉S):iY p T i u:=by
 obtain⟨a,b,c⟩:=h;exact⟨a,k.get b d,c⟩
theorem iY.ext{b:Nat->Nat×Nat}(h:iY L T i u)(e:∀v,v<i->u v=b v):iY L T i b:=by
 obtain⟨a,d,f,g⟩:=h;exact⟨a,d,f,fun v c=>by rw[<-e v c];exact g v c⟩
theorem iY.cells(h:iY L T i u)(c:N<i):XI L ⟨T,N*2,XJ⟩=XK (Xx XF (u N).1)/\XI L ⟨T,N*2+1,XJ⟩=XK (Xx XF (u N).2)/\T<L.heap.size:=by
 obtain⟨d,a,e,b⟩:=h;exact⟨by rw[ab a];exact(b N c).1,by rw[ab a];exact(b N c).2,ae a⟩
theorem iY.free(h:iY L T i u)(a:Nat):L.frozen? ⟨T,a,XJ⟩=XM:=by
 obtain⟨b,c,-⟩:=h;exact aw c a
theorem iY.set(h:iY L T i u)(l:N<i)(x y:Nat):iY ((L.setCell ⟨T,N*2,XJ⟩ (Xx XF x)).setCell ⟨T,N*2+1,XJ⟩ (Xx XF y)) T i (fun a=>if a=N then(x,y) else u a):=by
 obtain⟨c,g,b,j⟩:=h;refine⟨_,af (af g _ _) _ _,by simp[b],fun a k=>?_⟩;obtain⟨d,f⟩:=j a k;rw[QB,QB,QB,QB];by_cases e:a=N
 ·subst e;simp[b];omega
 ·simp only[if_neg e];rw[PV (by omega),PV (by omega),PV (by omega),PV (by omega)];exact⟨d,f⟩
theorem Fp(b:f<v*2):(madeCells (XB #[Xx XF 0,Xx XF 0]).cells (v*2))[f]?=XK (Xx XF 0):=by
 have e:(XB #[Xx XF 0,Xx XF 0]).cells=#[Xx XF 0,Xx XF 0]:=rfl;rw[e];have c:(madeCells #[Xx XF 0,Xx XF 0] (v*2)).size=v*2:=QV _ _;rw[Rn (by rw[c];exact b)];have a:f % 2=0∨f % 2=1:=by omega
 rcases a with a | a <;> simp[madeCells,a]
theorem Nw:(prog.info? 141).map (fun i=>(i.zero,i.size,i.bytes))=XK (XK (XB #[Xx XF 0,Xx XF 0]),2,16):=by kernel_rfl
def CN(P:cY)(ct:Nat->Nat)(k v:Nat):Nat×Nat:=if k<=ol P v then(ct (ol P v),ct (ol P v+1)) else(0,0)
theorem An(d:kZ M)(c:i<M.vars.length)(a:T<M.body.length)(h:aZ M.vars M.body[T]≠XK i):CN M t T i=CN M t (T+1) i:=by
 have b:ol M i≠T:=fun e=>by
  have:=(yi d c).2;rw[e,fT _ _ a]at this;exact h this
 unfold CN;by_cases q:T<=ol M i
 ·rw[PZ q,PZ (by omega)]
 ·rw[PV q,PV (by omega)]
theorem JW(c:kZ M)(b:i<M.vars.length)(a:T<M.body.length)(h:aZ M.vars M.body[T]=XK i):CN M t T i=(t T,t (T+1)):=by
 have e:ol M i=T:=MM c b a (by rw[fT _ _ a];exact h);unfold CN;rw[e,PZ (PQ _)]
theorem CY(P:cY)(d:Nat->Nat)(b e:Nat)(w:XP)(V:jK w l H P)(ok:kZ P)(S:P.body.length<=100000)(a3:P.vars.length<=100000)(he:d P.body.length=e)(E:∀k c,k<P.body.length->aa [] w c->XO prog 150 #[XA (XK ⟨o,0,XJ⟩),rq H,XA (XK ⟨y,0,XJ⟩),Xx XF k,Xx XF (d (k+1))] c fun e' w'=>e'=XH (Xx XF (d k))/\aa [] c w') :
  XO prog 130 #[XA (XK ⟨o,0,XJ⟩),rq H,XA (XK ⟨y,0,XJ⟩),XB #[Xx XF b,Xx XF e]] w fun e' w'=>∃a,e'=XH (Xz (XK ⟨a,0,XJ⟩) H.gs.length H.gs.length)/\iY w' a H.gs.length (fun v=>(d (ol P v),d (ol P v+1)))/\w.heap.size<=a/\aa [] w w':=by
 unfold rq at E ⊢;obtain⟨W,Q⟩:∃W,XN ((w.alloc (XE #[Xy H.label,Xx XF H.code,Xz (XK ⟨H.ap,0,XJ⟩) H.np H.np,Xz H.ag H.gs.length H.gs.length] 163)).alloc (XE #[Xx XF b,Xx XF e] 141)=W):=⟨_,rfl⟩
 have k1:aa [] w (w.alloc (XE #[Xy H.label,Xx XF H.code,Xz (XK ⟨H.ap,0,XJ⟩) H.np H.np,Xz H.ag H.gs.length H.gs.length] 163)):=(aa.refl [] _).alloc _;have kW:aa [] w W:=by rw[<-Q.out];exact k1.alloc _
 have BP:W.heap[w.heap.size]?=XK (XE #[Xy H.label,Xx XF H.code,Xz (XK ⟨H.ap,0,XJ⟩) H.np H.np,Xz H.ag H.gs.length H.gs.length] 163):=by
  rw[<-Q.out];exact((aa.refl [] _).alloc _).get (PM w _) (by simp)
 have BS:W.heap[w.heap.size+1]?=XK (XE #[Xx XF b,Xx XF e] 141):=by
  rw[<-Q.out];have:=PM (w.alloc (XE #[Xy H.label,Xx XF H.code,Xz (XK ⟨H.ap,0,XJ⟩) H.np H.np,Xz H.ag H.gs.length H.gs.length] 163)) (XE #[Xx XF b,Xx XF e] 141);rw[show(w.alloc (XE #[Xy H.label,Xx XF H.code,Xz (XK ⟨H.ap,0,XJ⟩) H.np H.np,Xz H.ag H.gs.length H.gs.length] 163)).heap.size=w.heap.size+1 by simp]at this;exact this
 have f:XN (∀c,aa [] W c->(XI c ⟨w.heap.size,0,XJ⟩=XK (Xy H.label)/\XI c ⟨w.heap.size,1,XJ⟩=XK (Xx XF H.code)/\XI c ⟨w.heap.size,2,XJ⟩=XK (Xz (XK ⟨H.ap,0,XJ⟩) H.np H.np)/\XI c ⟨w.heap.size,3,XJ⟩=XK (Xz H.ag H.gs.length H.gs.length))/\w.heap.size<c.heap.size):=fun c q=>by
  have B2:=q.get BP (by simp);refine⟨⟨?_,?_,?_,?_⟩,ae B2⟩ <;> (rw[ab B2];rfl)
 have ao:XN (∀k (U:k<P.body.length) c,aa [] W c->XI c ⟨H.ap,k*2+1,XJ⟩=XK (Xx XF (eT (aZ P.vars P.body[k])))/\H.ap<c.heap.size):=fun k U c q=>by
  obtain⟨g',e1,az,av⟩:=((V.Ur kW).Ur q).parts k P.body[k] (PJ U);cases e1
  exact⟨av 1 _ rfl,az⟩
 have s1:XI W ⟨w.heap.size+1,1,XJ⟩=XK (Xx XF e):=by rw[ab BS];rfl
 have a2:=ae BS;have J:XN (∀k c,k<P.body.length->aa [] W c->_):=fun k c U q=>E k c U (kW.trans q);obtain⟨i0,a0,a4,a5,a6⟩:=Qq Nw;have F:H.gs.length=P.vars.length:=by rw[V.ng,V.len]
 have n:=V.np;have t:XN _:=ok;have K:XN _:=kW;have m2:=fun w=>bR (P:=prog) w 214 141 i0 _ underlying214 a0 a4 H.gs.length 2 a5 (by rw[a6];omega) (by omega);obtain⟨I,R⟩:∃I,XN (madeCells (XB #[Xx XF 0,Xx XF 0]).cells (H.gs.length*2)=I):=⟨_,rfl⟩
 have s:XN (I.size=H.gs.length*2/\∀i,i<H.gs.length*2->I[i]?=XK (Xx XF 0)):=by
  rw[<-R.out];exact⟨QV _ _,fun i hi=>Fp _ i hi⟩
 rw[R.out]at m2;obtain⟨⟨-,-,p2,p3⟩,a1⟩:=f.out W (aa.refl _ _);obtain⟨sb,O⟩:∃sb,XN (w.heap.size+1=sb):=⟨_,rfl⟩
 rw[O.out]at s1 a2;obtain⟨pb,M⟩:∃pb,XN (w.heap.size=pb):=⟨_,rfl⟩
 rw[M.out]at f p2 p3 a1;obtain⟨g,L⟩:∃g,XN (H.gs.length=g):=⟨_,rfl⟩
 rw[L.out]at F;have a7:g<=100000:=by omega
 have T:d H.np=e:=by rw[n];exact he
 have be:H.np<=100000:=by rw[n];exact S
 have am:XN _:=n;have B:XN _:=F;rw[L.out]at Q f J m2 s p3 ⊢;have aq:XN (iY (W.alloc (XE I 141)) W.heap.size g (CN P d H.np)):=by
  refine⟨I,PM _ _,s.out.1,fun v hv=>?_⟩;have e1:CN P d H.np v=(0,0):=by
   unfold CN;rw[PV];have:=(yi t.out (v:=v) (by omega)).1;rw[n];omega
  rw[e1];exact⟨s.out.2 _ (by omega),s.out.2 _ (by omega)⟩
 have ac:XN _:=T;have ah:XN _:=K.out.size;clear V ok E BP BS kW k1 n F he T S a3;go_enter func130,ntmps130;go_upto_region 1 with fail
 rw[Q.out,O.out,M.out];go_wp2
 go_loopg [10,11] H.np (fun gk ev kv wr=>∃k:Nat,k<=H.np/\gk=k/\ev=Xx XF (d k)/\kv=Xx XF ((k:Int)-1)/\XN (iY wr W.heap.size g (CN P d k))/\XN (aa [] W wr))
 case atStart=>exact⟨H.np,PQ _,rfl,by rw[ac.out],rfl,aq,(aa.refl _ _).alloc _⟩
 case round =>
  obtain⟨k,U,a9,rfl,rfl,HS,r⟩:=hrel;cases k with
  | zero =>
   have ad:XN (iY wr W.heap.size g (fun v=>(d (ol P v),d (ol P v+1)))):=HS.out.ext (fun v _=>by unfold CN;rw[PZ (Qx _)]);go_wp2;go_ret;exact⟨W.heap.size,rfl,ad.out,ah.out,K.out.trans r.out⟩
  | succ m =>
   have hm:((m+1:Nat):Int)-1=(m:Int):=(by omega);rw[hm];have bc:(m:Int) ≥ 0:=by omega
   have bd:(m:Int)<(H.np:Int):=(by omega);have j:m<P.body.length:=(by rw[<-am.out];omega);obtain⟨⟨p0,p1,p2,p3⟩,bf⟩:=f.out _ r.out;have HB:XN _:=J.out m _ j r.out;have x:XN _:=ao.out m j;cases G:aZ P.vars P.body[m] with
   | none =>
    rw[G]at x;have C:XN (∀c,iY c W.heap.size g (CN P d (m+1))->iY c W.heap.size g (CN P d m)):=fun c q=>q.ext (fun v hv=>(An t.out (by have:=B.out;omega) j (by rw[G];simp)).symm);have a8:XN _:=HS.out;(go_upto_region 7 with (go_at_call 150;refine PU HB.out ?_;rintro e4 w4 ⟨rfl,A⟩));obtain⟨⟨r0,r1,r2,r3⟩,X⟩:=f.out _ (r.out.trans A);obtain⟨Z,r6⟩:=x.out _ (r.out.trans A);replace Z:XI w4 ⟨H.ap,m*2+1,XJ⟩=XK (Xx XF (-1)):=Z;have N:=C.out _ (HS.out.kept A (by simp));have D:XN _:=N;clear N;go_wp2;go_roundg m
    case measure=>omega
    case rel=>exact⟨m,by omega,rfl,rfl,by go_num,D,r.out.trans A⟩
   | some v =>
    rw[G]at x;have hv:v<P.vars.length:=Qe.1 (Qm G);have Y:v<g:=by have:=B.out;omega
    have bg:(v:Int)<(g:Int):=by omega
    have C:XN (∀c,iY c W.heap.size g (fun u=>if u=v then(d m,d (m+1)) else CN P d (m+1) u)->iY c W.heap.size g (CN P d m)):=fun c q=>q.ext (fun u hu=>by
     by_cases e:u=v
     ·rw[PZ e,e,JW t.out hv j G]
     ·rw[PV e]
      exact(An t.out (by have:=B.out;omega) j (fun z=>e (by rw[G]at z;cases z;rfl))).symm)
    (go_upto_region 7 with (go_at_call 150;refine PU HB.out ?_;rintro e4 w4 ⟨rfl,A⟩));obtain⟨⟨r0,r1,r2,r3⟩,X⟩:=f.out _ (r.out.trans A);obtain⟨Z,r6⟩:=x.out _ (r.out.trans A);replace Z:XI w4 ⟨H.ap,m*2+1,XJ⟩=XK (Xx XF (v:Int)):=Z;have p:=HS.out.kept A (by simp);obtain⟨t0,t1,t2⟩:=p.cells Y;have f0:=p.free (v*2);have f1:=p.free (v*2+1);have D:XN (iY ((w4.setCell ⟨W.heap.size,v*2,XJ⟩ (Xx XF (d m))).setCell ⟨W.heap.size,v*2+1,XJ⟩ (Xx XF (d (m+1)))) W.heap.size g (CN P d m)):=C.out _ (p.set Y _ _);have ai:XN (aa [] W ((w4.setCell ⟨W.heap.size,v*2,XJ⟩ (Xx XF (d m))).setCell ⟨W.heap.size,v*2+1,XJ⟩ (Xx XF (d (m+1))))):=((r.out.trans A).setCell (P7 (PQ _)) _).setCell (P7 (PQ _)) _;clear p;go_wp2;go_roundg m
    case measure=>omega
    case rel=>exact⟨m,by omega,rfl,rfl,by go_num,D,ai⟩
end Go.Proofs.YtnbalopedcgpcaaGreat
