import Derived.BigRegion
import Derived.Outline
import Derived.Test.YtnbalopedcgpcaaGreatG29
import Derived.Test.YtnbalopedcgpcaaGreatG30
namespace Go.Proofs.YtnbalopedcgpcaaGreat
open Go.RowKit Tryz
open Value renaming int->Xx,string->Xy,slice->Xz,pointer->XA,bool->XC,tuple->XD
open Obj renaming cells->XE
open IntKind renaming i64->XF
open Ending renaming returned->XH
open World renaming cell?->XI
open Option renaming none->XJ,some->XK
open Bool renaming true->XL,false->XM
open Go.RowKit renaming Hid->XN
open Go renaming Calls->XO,World->XP,Value->XQ
set_option maxHeartbeats 0
variable{S:List ByteArray}{L:Nat}{x:Hd}(a:Hd)(i y f:List ByteArray)(T:XP)(n v:Nat)(o D:ByteArray)(b:Nat)
def Fe(ws:List ByteArray):Nat->ByteArray
 | 0=>⟨#[]⟩
 | k+1=>(if 0<k then Fe ws k++⟨#[32]⟩ else Fe ws k)++gD ws k
def zk(ws:List ByteArray):ByteArray:=Fe ws ws.length
theorem lM(h:L<S.length):gD S L∈S:=by
 unfold gD;rw[PK,PJ h];exact PT _
theorem rJ(h:∀x∈f,x.size<=100000)(k:Nat)(d:k<=f.length):(Fe f k).size<=k*100001:=by
 induction k with
 | zero=>exact PQ _
 | succ k a =>
  have b:=a (by omega);have c:=h _ (lM (show k<f.length by omega));rw[Fe,Qd];split
  ·rw[Qd,kr];omega
  ·omega
theorem zl(v:cE T a f)(K:f.length<=10000)(r:∀x∈f,x.size<=100000) :
  XO prog 27 #[Xz a.ao f.length a.cap] T fun e F=>e=XH (Xy (zk f))/\F=T:=by
 obtain⟨n,c⟩:∃n,XN (a.ao=n):=⟨_,rfl⟩
 rw[c.out];go_enter func27,ntmps27;go_wp2
 go_loopg [3,4] f.length (fun g E i wr=>∃k:Nat,k<=f.length/\g=f.length-k/\i=Xx XF k/\E=Xy (Fe f k)/\wr=T)
 case atStart=>exact⟨0,by omega,by omega,rfl,rfl,rfl⟩
 case round =>
  obtain⟨k,B,J,rfl,rfl,rfl⟩:=hrel;by_cases b:k<f.length
  ·rcases v with m | ⟨g,j,u,t,w,o,q,H,I⟩
   ·rw[m]at b;simp at b
   ·have d:f[k]=gD f k:=(by unfold gD;rw[PK,PJ b];rfl);have G:XI wr ⟨g,j+k,XJ⟩=XK (Xy (gD f k)):=(by rw[ab o,<-d];exact q k f[k] (PJ b));obtain rfl:n=XK ⟨g,j,XJ⟩:=c.out.symm.trans w;have A:=ae o;have D:=rJ f r k B;have L:=r _ (lM b);have l:XN (Fe f (k+1)=(if 0<k then Fe f k++⟨#[32]⟩ else Fe f k)++gD f k):=rfl;have C:(k:Int)<f.length:=(by omega);clear o q d;generalize Fe f k=s at *;generalize gD f k=y at *;have z:(s++⟨#[32]⟩).size=s.size+1:=by rw[Qd];rfl
    by_cases m:0<k
    ·have p:(k:Int) > 0:=(by omega);rw[PZ m]at l;go_wp2;go_roundg (f.length-(k+1))
     case measure=>omega
     case rel=>exact⟨k+1,by omega,rfl,by go_num,congrArg Xy l.out.symm,rfl⟩
    ·have p:¬(k:Int) > 0:=(by omega);rw[PV m]at l;go_wp2;go_roundg (f.length-(k+1))
     case measure=>omega
     case rel=>exact⟨k+1,by omega,rfl,by go_num,congrArg Xy l.out.symm,rfl⟩
  ·have e:k=f.length:=(by omega);subst e;go_wp2;go_ret;exact⟨rfl,rfl⟩
def jO(us vs:List ByteArray)(x:ByteArray):List ByteArray:=match aZ us x with
 | none=>[x]
 | some k=>if((gD vs k).toList == [])=XL then [] else aV (gD vs k)
def py(us vs e:List ByteArray):List ByteArray:=e.flatMap (jO us vs)
def nX(us vs e:List ByteArray)(k:Nat):List ByteArray:=(e.take k).flatMap (jO us vs)
theorem zU(h:b<f.length):nX i y f (b+1)=nX i y f b++jO i y (gD f b):=by
 unfold nX;rw[QE h,Q1,R4];unfold gD;rw[PK,PJ h];rfl
theorem Cn(h:∀x∈f,x.size<=1000)(x:ByteArray):(jO y f x).length<=1001:=by
 unfold jO;split
 ·simp
 ·next k _ =>
  split
  ·simp
  ·have:=qx (gD f k);by_cases a:k<f.length
   ·have:=h _ (lM a);omega
   ·have e:gD f k=⟨#[]⟩:=(by unfold gD;rw[PK,QP (by omega)];rfl);rw[e]at this ⊢;have b:(⟨#[]⟩:ByteArray).size=0:=rfl;omega
theorem Jr(h:∀x∈y,x.size<=1000)(k:Nat)(d:k<=f.length):(nX i y f k).length<=k*1001:=by
 induction k with
 | zero=>simp[nX]
 | succ k a =>
  have b:=a (by omega);have c:=Cn i y h (gD f k);rw[zU i y f k (by omega),Qa];omega
set_option maxRecDepth 100000
theorem zo(z S:Hd)(e c b:List ByteArray)(w:XP)(ve:cE w a e)(vu:cE w z c)(vv:cE w S b)(a3:e.length<=990)(a4:c.length<=10000)(a5:c.length<=b.length)(hs:∀x∈b,x.size<=1000) :
  XO prog 24 #[Xz a.ao e.length a.cap,Xz z.ao c.length z.cap,Xz S.ao b.length S.cap] w fun r w'=>∃l:Hd,r=XH (Xz l.ao (py c b e).length l.cap)/\Dj w w' l (au (py c b e)):=by
 obtain⟨i0,hi,L,M,N⟩:=Qq ey;have HE:XN (nX c b e e.length=py c b e):=by show _=_;unfold nX py;rw[QJ]
 rw[<-HE.out];clear HE;obtain⟨T,E⟩:∃T,XN (a.ao=T):=⟨_,rfl⟩
 obtain⟨U,F⟩:∃U,XN (S.ao=U):=⟨_,rfl⟩
 rw[E.out,F.out];go_enter func24,ntmps24;go_wp2
 go_loopg [7,8] e.length (fun gk sv i wr=>∃(k:Nat) (l:Hd),k<=e.length/\gk=e.length-k/\i=Xx XF k/\sv=Xz l.ao (nX c b e k).length l.cap/\XN (Dj w wr l (au (nX c b e k))))
 case atStart=>exact⟨0,⟨XJ,0⟩,by omega,by omega,rfl,rfl,⟨Qj _ _ _ _,by intro x hx;simp[Hd.blk]at hx,aa.refl _ _⟩⟩
 case round =>
  obtain⟨k,l,hk,hg,rfl,rfl,D⟩:=hrel;have Z:=D.out.kept;have av:=Jr c b e hs k hk;by_cases s:k<e.length
  ·have P:XN _:=Eb z c (gD e k) wr (vu.Ur Z) (by omega);have d:XN _:=zU c b e k s;rcases(ve.Ur Z) with R | ⟨g,O,aq,t,e1,X,e3,e4,e5⟩
   ·rw[R]at s;simp at s
   have p:e[k]=gD e k:=(by unfold gD;rw[PK,PJ s];rfl);have c2:XI wr ⟨g,O+k,XJ⟩=XK (Xy (gD e k)):=(by rw[ab X,<-p];exact e3 k e[k] (PJ s));obtain rfl:T=XK ⟨g,O,XJ⟩:=E.out.symm.trans e1;have a1:=ae X;have a2:(k:Int)<e.length:=(by omega);clear X e3 p;cases C:aZ c (gD e k) with
   | none =>
    have H:XN (jO c b (gD e k)=[gD e k]):=(by show _=_;unfold jO;rw[C]);rw[C]at P;have ai:((-1:Int)<0):=by omega
    rw[H.out]at d;clear H C;generalize gD e k=y at *;(go_upto_region 6 with (go_at_call 25;refine PU P.out ?_;rintro r w1 ⟨rfl,J⟩;rw[J];clear J));unfold eT;go_wp2_with (at_builtin;refine iy _ rfl (.tmp 25) (.tmp 30) 22 rfl i0 (Xy ⟨#[]⟩) 16 l (au (nX c b e k)) [Xy y] underlying22 hi L M N rfl Qf rfl D.out.own (by simp only[au];omega) (by omega) rfl rfl (by simp[Value.oneCell']) ?_;intro Y w5 f o;rw[bJ]at f;have m:XN _:=D.out.UB o f;clear f o);rw[<-d.out]at m;have B:XN ((au (nX c b e k)).n+1=(nX c b e (k+1)).length):=by show _=_;rw[d.out];simp[au]
    rw[B.out];go_wp2;go_roundg (e.length-(k+1))
    case measure=>omega
    case rel=>exact⟨k+1,Y,by omega,rfl,by go_num,rfl,m⟩
   | some q =>
    have hq:q<c.length:=Qe.1 (Qm C);have H:XN (jO c b (gD e k)=if((gD b q).toList == [])=XL then [] else aV (gD b q)):=(by show _=_;unfold jO;rw[C]);rw[C]at P;rcases(vv.Ur Z) with R | ⟨gv,A,ah,tv,f1,Q,f3,f4,f5⟩
    ·have R:b.length=0:=(by rw[R];rfl);omega
    have p:b[q]'(by omega)=gD b q:=(by unfold gD;rw[PK,PJ (by omega)];rfl);have c3:XI wr ⟨gv,A+q,XJ⟩=XK (Xy (gD b q)):=(by rw[ab Q,<-p];exact f3 q _ (PJ (by omega)));obtain rfl:U=XK ⟨gv,A,XJ⟩:=F.out.symm.trans f1;have a0:=ae Q;have a7:=hs _ (lM (show q<b.length by omega));have a6:(q:Int)<b.length:=(by omega);have am:¬((q:Int)<0):=(by omega);rw[H.out]at d;have V:XN _:=(vN (gD b q) wr (by omega));clear H C Q f3 p;generalize gD e k=y at *;generalize gD b q=u at *;(go_upto_region 6 with (go_at_call 25;refine PU P.out ?_;rintro r w1 ⟨rfl,J⟩;rw[J];clear J));unfold eT;cases z:(u.toList == [])
    ·rw[z,PV (by simp)]at d;have ag:(u.toList != [])=XL:=(by simp[bne,z]);have ap:=qx u;have K:0<(aV u).length:=(by unfold aV;simp);(go_upto_region 10 with (go_at_call 59;refine PU V.out ?_;rintro r w2 ⟨h2,rfl,o2,Q,k2⟩));have G:XN _:=D.out.Ur k2;obtain⟨g2,I,az,-⟩:=mD o2 (show 0<(au (aV u)).n from K);have ac:XN (∀W,XK (⟨g2,0,XJ⟩:Addr)=XK W->∀j v,(strs (aV u))[j]?=XK v->w2.cell? (W.add j)=XK v):=by
      intro W ea j v hj;cases ea
      rw[ba];exact o2.cell I j v hj
     rw[I];go_wp2_with (at_builtin;refine ju _ rfl (.tmp 42) (.tmp 43) 22 rfl i0 (Xy ⟨#[]⟩) 16 l (au (nX c b e k)) underlying22 hi L M N rfl Qf rfl G.out.own (XK ⟨g2,0,XJ⟩) (aV u).length h2.cap (strs (aV u)) rfl (by simp[au,strs]) (fun q=>by cases q) ac.out (ij _) (by simp only[au];omega) (by omega) ?_;intro Y w5 f o;rw[Ab]at f;have m:XN _:=G.out.UB o f;clear f o);rw[<-d.out]at m;have B:XN ((au (nX c b e k)).n+(aV u).length=(nX c b e (k+1)).length):=by show _=_;rw[d.out];simp[au]
     rw[B.out];go_wp2;go_roundg (e.length-(k+1))
     case measure=>omega
     case rel=>exact⟨k+1,Y,by omega,rfl,by go_num,rfl,m⟩
    ·rw[z,PZ rfl,QK]at d;have ag:(u.toList != [])=XM:=(by simp[bne,z]);go_wp2;go_roundg (e.length-(k+1))
     case measure=>omega
     case rel=>exact⟨k+1,l,by omega,rfl,by go_num,by rw[d.out],by rw[d.out];exact D⟩
  ·have e:k=e.length:=(by omega);subst e;go_wp2;go_ret;exact⟨l,rfl,D.out⟩
structure Bk where
 z:ByteArray
 out:XQ
 decl:ByteArray
 disj:ByteArray
 ess:ByteArray
 floats:List ByteArray
 holds:List ByteArray
 long:Bool
 clash:Bool
 Ux:List ByteArray
 packed:ByteArray
 Uu:List ByteArray
 laid:ByteArray
 names:List ByteArray
 verdicts:List Int
 whys:List Int
 vals:List ByteArray
 goal:List ByteArray
 over:Bool
def Bb(k:Bk)(H:Nat->Hd):List XQ :=
 [Xy k.z,k.out,Xy k.decl,Xy k.disj,Xy k.ess,Xz (H 0).ao k.floats.length (H 0).cap,Xz (H 1).ao k.holds.length (H 1).cap,XC k.long,XC k.clash,Xz (H 2).ao k.Ux.length (H 2).cap,Xy k.packed,Xz (H 3).ao k.Uu.length (H 3).cap,Xy k.laid,Xz (H 4).ao k.names.length (H 4).cap,Xz (H 5).ao k.verdicts.length (H 5).cap,Xz (H 6).ao k.whys.length (H 6).cap,Xz (H 7).ao k.vals.length (H 7).cap,Xz (H 8).ao k.goal.length (H 8).cap,XC k.over]
def nz(k:Bk):Nat->fe
 | 0=>au k.floats
 | 1=>au k.holds
 | 2=>au k.Ux
 | 3=>au k.Uu
 | 4=>au k.names
 | 5=>fN k.verdicts
 | 6=>fN k.whys
 | 7=>au k.vals
 | 8=>au k.goal
 | _+9=>au []
abbrev mN (w:XP) (B:Nat) (k:Bk) (H:Nat->Hd):Prop:=aB w B 78 (Bb k H) (nz k) H
structure pO(w0 w:XP)(B:Nat)(k:Bk)(H:Nat->Hd):Prop where
 bag:mN w B k H
 new:w0.heap.size<=B/\∀x,cD H x->w0.heap.size<=x
 kept:aa [] w0 w
section
variable {w0 w w':XP} {B:Nat} {k k':Bk} {H H':Nat->Hd}
theorem pO.Ur(h:pO w0 w B k H)(q:aa [] w w'):pO w0 w' B k H:=⟨h.bag.Ur q,h.new,h.kept.trans q⟩
theorem pO.turn(h:pO w0 w B k H)(b:mN w' B k' H')(t:aj B w H w' H'):pO w0 w' B k' H':=by
 refine⟨b,⟨h.new.1,fun x a=>?_⟩,h.kept.turned t h.new.1 h.new.2⟩;rcases t.2 x a with q | q
 ·exact h.new.2 x q
 ·have:=h.kept.size;omega
structure xV(w0 w:XP)(B:Nat)(H:Nat->Hd)(hd:Hd)(l:List ByteArray):Prop where
 own:aE w hd (au l)
 far:∀x,hd.blk=XK x->w0.heap.size<=x/\x≠B/\¬cD H x
theorem xV.nil:xV w0 w B H ⟨XJ,0⟩ []:=⟨Qj _ _ _ _,by intro x a;simp[Hd.blk]at a⟩
theorem xV.Ur(h:xV w0 w B H x S)(q:aa [] w w'):xV w0 w' B H x S:=⟨h.own.Ur q,h.far⟩
theorem xV.turn(h:xV w0 w B H x S)(t:aj B w H w' H'):xV w0 w' B H' x S:=by
 refine⟨h.own.Uw (fun b a=>?_),fun b a=>?_⟩
 ·obtain⟨-,c,d⟩:=h.far b a;exact t.1.block b (h.own.lt a) (by rintro (e | e);exact c e;exact d e)
 ·obtain⟨f,c,d⟩:=h.far b a;exact⟨f,c,t.fresh b (h.own.lt a) d⟩
theorem pO.beside{f:Hd}{j:List ByteArray}(h:pO w0 w B k H)(b:xV w0 w B H x S)(g:fZ w w' x f)(o:aE w' f (au j)):pO w0 w' B k H/\xV w0 w' B H f j:=by
 have i:∀a,a∈x.blk.toList->w0.heap.size<=a/\a≠B/\¬cD H a:=fun a d=>b.far a (pd d);refine⟨⟨h.bag.kept g.kept (fun c=>(i B c).2.1 rfl) (fun a d c=>(i a c).2.2 d),h.new,?_⟩,⟨o,fun a d=>?_⟩⟩
 ·exact⟨g.kept.os.trans h.kept.os,g.kept.tape.trans h.kept.tape,g.kept.output.trans h.kept.output,Qk h.kept.size g.kept.size,fun a d _=>by rw[g.kept.block a (PY d h.kept.size) (fun c=>by have:=(i a c).1;omega)];exact h.kept.block a d (by simp)⟩
 ·rcases g.blk with e | ⟨q,e,l⟩
  ·exact b.far a (by rw[<-e];exact d)
  ·rw[e]at d;cases d
   refine⟨Qk h.kept.size l,fun e=>?_,fun e=>?_⟩
   ·have:=h.bag.lt;omega
   ·have:=h.bag.inlt e;omega
end
theorem yn(k:Bk)(v:List ByteArray)(d:ByteArray):∀j,j≠0->nz { k with floats:=v,decl:=d } j=nz k j:=by
 intro j b
 match j,b with
 | 0,b=>exact absurd rfl b
 | 1,_=>rfl
 | 2,_=>rfl
 | 3,_=>rfl
 | 4,_=>rfl
 | 5,_=>rfl
 | 6,_=>rfl
 | 7,_=>rfl
 | 8,_=>rfl
 | _+9,_=>rfl
theorem Hi(k:Bk)(v:List ByteArray)(d:ByteArray):∀j,j≠4->nz { k with laid:=d,names:=v } j=nz k j:=by
 intro j a
 match j,a with
 | 4,a=>exact absurd rfl a
 | 0,_=>rfl
 | 1,_=>rfl
 | 2,_=>rfl
 | 3,_=>rfl
 | 5,_=>rfl
 | 6,_=>rfl
 | 7,_=>rfl
 | 8,_=>rfl
 | _+9,_=>rfl
theorem Hj(k:Bk)(v:List Int):∀j,j≠5->nz { k with verdicts:=v } j=nz k j:=by
 intro j b
 match j,b with
 | 5,b=>exact absurd rfl b
 | 0,_=>rfl
 | 1,_=>rfl
 | 2,_=>rfl
 | 3,_=>rfl
 | 4,_=>rfl
 | 6,_=>rfl
 | 7,_=>rfl
 | 8,_=>rfl
 | _+9,_=>rfl
theorem Hk(k:Bk)(v:List Int):∀j,j≠6->nz { k with whys:=v } j=nz k j:=by
 intro j a
 match j,a with
 | 6,a=>exact absurd rfl a
 | 0,_=>rfl
 | 1,_=>rfl
 | 2,_=>rfl
 | 3,_=>rfl
 | 4,_=>rfl
 | 5,_=>rfl
 | 7,_=>rfl
 | 8,_=>rfl
 | _+9,_=>rfl
theorem yo(k:Bk)(v:List ByteArray):∀j,j≠8->nz { k with goal:=v } j=nz k j:=by
 intro j a
 match j,a with
 | 8,a=>exact absurd rfl a
 | 0,_=>rfl
 | 1,_=>rfl
 | 2,_=>rfl
 | 3,_=>rfl
 | 4,_=>rfl
 | 5,_=>rfl
 | 6,_=>rfl
 | 7,_=>rfl
 | _+9,_=>rfl
theorem EH(f:Nat):∀(n:Nat) (s:ByteArray),(qL f n s).size<=s.size+f:=by
 induction f with
 | zero=>intro n s;exact PQ _
 | succ f a =>
  intro n s;rw[qL];split
  ·have:=a (n / 10) (uo n++s);rw[Qd,mw]at this;omega
  ·omega
theorem oN:(dy b).size<=21:=by
 have:=EH 20 (b / 10) (uo b);rw[mw]at this;exact this
def Ci(z:ByteArray)(wh:List Int)(i:Nat)(sg:ByteArray):ByteArray:=if 0<=wh.getD i 0 then z++⟨#[102]⟩++sg++dy (wh.getD i 0).toNat else z++⟨#[101]⟩++sg++dy (-1-wh.getD i 0).toNat
set_option maxRecDepth 512
theorem LK(k:Bk)(H:Nat->Hd)(y:ByteArray)(Q:XQ)(f:Fm)(L:List Ex)(N:Hd)(o:Nat->Hd)(i:Nat)(A:ByteArray)(w:XP)(D:mN w n k H)(t:fQ w v b y Q f L N o)(E:i<f.which.length)(T:-9999<=f.which.getD i 0/\f.which.getD i 0<=9999)(U:k.z.size<=1000)(S:A.size<=1000) :
  XO prog 26 #[XA (XK ⟨n,0,XJ⟩),XA (XK ⟨v,0,XJ⟩),Xx XF i,Xy A] w fun e R=>e=XH (Xy (Ci k.z f.which i A))/\aa [] w R:=by
 have C:XI w ⟨n,0,XJ⟩=XK (Xy k.z):=by rw[D.cell];rfl
 have I:XI w ⟨v,3,XJ⟩=XK (Xz (o 1).ao f.which.length (o 1).cap):=by rw[t.bag.cell];rfl
 have a:=D.lt;have M:=t.bag.lt;obtain⟨g,p,O,J,-⟩:=LL (t.bag.own 1) E;have c:f.which[i]=f.which.getD i 0:=by rw[PK,PJ E];rfl
 rw[c]at J;rw[p]at I;have P:(i:Int)<f.which.length:=by omega
 unfold Ci;generalize f.which.getD i 0=B at *;generalize k.z=z at *;by_cases q:0<=B
 ·obtain⟨m,rfl⟩:=TP q;have l:XN _:=(ky m w (by omega));have u:=oN m;have r:((m:Nat):Int) ≥ 0:=by omega
  rw[PZ q,Sn];generalize dy m=K at *;clear p c;go_enter func26,ntmps26;go_upto_region 3 with (go_at_call 62;refine PU l.out ?_;rintro e j ⟨rfl,d⟩)
  have G:XI j ⟨n,0,XJ⟩=XK (Xy z):=by rw[Qy (d.block n a (by simp))];exact C
  have s:n<j.heap.size:=PY a d.size;go_wp2;go_ret;exact⟨rfl,d⟩
 ·obtain⟨m,x⟩:∃m:Nat,-1-B=m:=TP (by omega);have l:XN _:=(ky m w (by omega));have u:=oN m;have r:¬(B ≥ 0):=by omega
  rw[PV q,x,Sn];generalize dy m=K at *;have F:XN _:=x;clear p c x;go_enter func26,ntmps26;go_upto_region 5 with (rw[F.out];go_at_call 62;refine PU l.out ?_;rintro e j ⟨rfl,d⟩)
  have G:XI j ⟨n,0,XJ⟩=XK (Xy z):=by rw[Qy (d.block n a (by simp))];exact C
  have s:n<j.heap.size:=PY a d.size;go_wp2;go_ret;exact⟨rfl,d⟩
def C9(z s:ByteArray)(i:Nat):ByteArray:=z++s++dy i
def Ku(z s:ByteArray)(i:Nat):ByteArray:=z++⟨#[102]⟩++s++dy i
def AQ(z s sk:ByteArray)(ts:List ByteArray)(d:ByteArray):Nat->ByteArray
 | 0=>d
 | k+1=>if((gD ts k).toList==sk.toList)=XL then AQ z s sk ts d k else AQ z s sk ts d k++⟨#[32,36,118,32]⟩++C9 z s k++⟨#[32,36,46,32]⟩++Ku z s k++⟨#[32,36,102,32]⟩++gD ts k++⟨#[32]⟩++C9 z s k++⟨#[32,36,46]⟩
def AS(z s sk:ByteArray)(ts:List ByteArray)(l:List ByteArray):Nat->List ByteArray
 | 0=>l
 | k+1=>if((gD ts k).toList==sk.toList)=XL then AS z s sk ts l k else AS z s sk ts l k++[Ku z s k]
theorem rR{z s:ByteArray}(b:z.size<=10)(a:s.size<=10)(i:Nat):(C9 z s i).size<=41:=by
 have:=oN i;unfold C9;rw[Qd,Qd];omega
theorem wT{z s:ByteArray}(c:z.size<=10)(b:s.size<=10)(i:Nat):(Ku z s i).size<=42:=by
 have:=oN i;have a:(⟨#[102]⟩:ByteArray).size=1:=rfl;unfold Ku;rw[Qd,Qd,Qd];omega
set_option maxRecDepth 100000
theorem Dt{z s sk:ByteArray}{d:ByteArray}(b:z.size<=10)(a:s.size<=10)(c:∀t∈S,t.size<=1024)(k:Nat)(q:k<=S.length):(AQ z s sk S d k).size<=d.size+k*1200:=by
 induction k with
 | zero=>exact PQ _
 | succ k e =>
  have m:=e (by omega);have n:=c _ (lM (show k<S.length by omega));have o:=rR b a k;have p:=wT b a k;have f:(⟨#[32,36,118,32]⟩:ByteArray).size=4:=rfl;have g:(⟨#[32,36,46,32]⟩:ByteArray).size=4:=rfl;have i:(⟨#[32,36,102,32]⟩:ByteArray).size=4:=rfl;have j:(⟨#[32]⟩:ByteArray).size=1:=rfl;have l:(⟨#[32,36,46]⟩:ByteArray).size=3:=rfl;rw[AQ];split
  ·omega
  ·simp only[ByteArray.size_append];omega
theorem No{z s sk:ByteArray}{ts l:List ByteArray}(k:Nat):(AS z s sk ts l k).length<=l.length+k:=by
 induction k with
 | zero=>exact PQ _
 | succ k a =>
  rw[AS];split
  ·omega
  ·rw[Qa,Ra];omega
def Ei(k:Bk)(sg sk:ByteArray)(ts:List ByteArray)(m:Nat):Bk:={ k with decl:=AQ k.z sg sk ts k.decl m,floats:=AS k.z sg sk ts k.floats m }
def rQ(z s:ByteArray)(m:Nat):List ByteArray:=(List.range m).map (C9 z s)
theorem AD:rQ o D (b+1)=rQ o D b++[C9 o D b]:=by unfold rQ;rw[QM,QA];rfl
theorem kS:(rQ o D b).length=b:=by unfold rQ;simp
def uj(w0:XP)(B:Nat)(k:Bk)(sg sk:ByteArray)(ts:List ByteArray)(m:Nat)(hd:Hd)(w:XP):Prop:=∃H,pO w0 w B (Ei k sg sk ts m) H/\xV w0 w B H hd (rQ k.z sg m)
theorem uj.Ur{d w c:XP}{k:Bk}{a b:ByteArray}{m:Nat}(h:uj d L k a b S m x w)(q:aa [] w c):uj d L k a b S m x c:=by
 obtain⟨H,e,f⟩:=h;exact⟨H,e.Ur q,f.Ur q⟩
theorem GF(k:Bk)(H:Nat->Hd)(a7:ByteArray)(lv:XQ)(f:Fm)(es:List Ex)(hg:Hd)(O:Nat->Hd)(a c:ByteArray)(w:XP)(hN:pO T w n k H)(hF:fQ T v b a7 lv f es hg O)(hv:f.vars.length<=4200)(ht:f.vars.length<=f.types.length)(a2:∀t∈f.types,t.size<=1024)(hz:k.z.size<=10)(hs:a.size<=10)(a9:k.decl.size<=1000000)(bf:k.floats.length<=300000000) :
  XO prog 23 #[XA (XK ⟨n,0,XJ⟩),XA (XK ⟨v,0,XJ⟩),Xy a,Xy c] w fun e w'=>∃r,e=XH (Xz r.ao f.vars.length r.cap)/\uj T n k a c f.types f.vars.length r w':=by
 obtain⟨iS,W,F,G,I⟩:=Qq ey;have a4:XN (uj T n k a c f.types 0 ⟨XJ,0⟩ w):=⟨H,hN,xV.nil⟩;have HF:XN _:=hF;have aq:∀(wr:XP) (r:Hd) (m:Nat),uj T n k a c f.types m r wr->XI wr ⟨v,4,XJ⟩=XK (Xz (O 2).ao f.vars.length (O 2).cap)/\XI wr ⟨v,5,XJ⟩=XK (Xz (O 3).ao f.types.length (O 3).cap)/\v<wr.heap.size/\n<wr.heap.size/\XI wr ⟨n,0,XJ⟩=XK (Xy k.z)/\XI wr ⟨n,2,XJ⟩=XK (Xy (AQ k.z a c f.types k.decl m))/\n≠v/\(∀i,wr.frozen? ⟨n,i,XJ⟩=XM):=fun wr r m h=>by
  obtain⟨Z,L,-⟩:=h;have q:=fQ.Ur hF L.kept;refine⟨by rw[q.bag.cell];rfl,by rw[q.bag.cell];rfl,q.bag.lt,L.bag.lt,by rw[L.bag.cell];rfl,by rw[L.bag.cell];rfl,?_,fun i=>L.bag.free i⟩;have:=hF.bag.lt;have:=L.new.1;omega
 have U:XN _:=aq;have av:∀(wr:XP) (r:Hd) (m:Nat),uj T n k a c f.types m r wr->m<f.types.length->∃g,(O 3).ao=XK ⟨g,0,XJ⟩/\g<wr.heap.size/\XI wr ⟨g,m,XJ⟩=XK (Xy (gD f.types m))/\g≠n:=fun wr r m h hm=>by
  obtain⟨Z,L,-⟩:=h;have q:=fQ.Ur hF L.kept;have o:aE wr (O 3) (au f.types):=q.bag.own 3;obtain⟨g,eg,a0,-⟩:=mD o (show 0<f.types.length by omega);refine⟨g,eg,a0,?_,?_⟩
  ·rw[o.cell eg m (Xy f.types[m]) (mL _ _ hm)];unfold gD;rw[PK,PJ hm];rfl
  ·have h2:(O 3).blk=XK g:=(by unfold Hd.blk;rw[eg];rfl);have:=HF.out.bag.inlt ⟨3,h2⟩;have:=L.new.1;omega
 have ah:XN _:=av;clear hN hF aq av;go_enter func23,ntmps23;go_wp2
 go_loopg [9,10] f.vars.length (fun gk sv i wr=>∃(m:Nat) (r:Hd),m<=f.vars.length/\gk=f.vars.length-m/\sv=Xz r.ao m r.cap/\i=Xx XF m/\XN (uj T n k a c f.types m r wr))
 case atStart=>exact⟨0,⟨XJ,0⟩,by omega,by omega,rfl,rfl,a4⟩
 case round =>
  obtain⟨m,r,hm,bm,rfl,rfl,HT⟩:=hrel;obtain⟨c4,c5,ap,am,z0,z2,ai,az⟩:=U.out wr r m HT.out;by_cases bo:m<f.vars.length
  ·have a3:XN _:=ky m wr (by omega);have bd:=oN m;have bq:(m:Int)<f.vars.length:=(by omega);have bs:(m:Int)<f.types.length:=(by omega);have HV:XN (k.z++a++dy m=C9 k.z a m):=rfl;have HL:XN (k.z++⟨#[102]⟩++a++dy m=Ku k.z a m):=rfl;(go_upto_region 6 with (go_at_call 62;refine PU a3.out ?_;rintro e S ⟨rfl,k1⟩));have K:XN (uj T n k a c f.types m r S):=HT.out.Ur k1;clear c4 c5 ap am z0 z2 ai az k1;obtain⟨c4,c5,ap,am,z0,z2,ai,az⟩:=U.out S r m K.out;obtain⟨g,eg,a0,ct,bl⟩:=ah.out S r m K.out (by omega);rw[eg]at c5;have bv:=a2 _ (lM (show m<f.types.length by omega));have be:=Dt (sk:=c) (d:=k.decl) hz hs a2 m (by omega);have bw:=rR hz hs m;have bp:=wT hz hs m;have B:XN (AQ k.z a c f.types k.decl (m+1)=if((gD f.types m).toList==c.toList)=XL then AQ k.z a c f.types k.decl m else AQ k.z a c f.types k.decl m++⟨#[32,36,118,32]⟩++C9 k.z a m++⟨#[32,36,46,32]⟩++Ku k.z a m++⟨#[32,36,102,32]⟩++gD f.types m++⟨#[32]⟩++C9 k.z a m++⟨#[32,36,46]⟩):=rfl;have J:XN (AS k.z a c f.types k.floats (m+1)=if((gD f.types m).toList==c.toList)=XL then AS k.z a c f.types k.floats m else AS k.z a c f.types k.floats m++[Ku k.z a m]):=rfl;(go_upto_region 7 with fail);rw[HV.out];cases M:((gD f.types m).toList==c.toList)
   ·have a1:((gD f.types m).toList != c.toList)=XL:=(by simp[bne,M]);rw[M,PV (by simp)]at B J;(go_upto_region 9 with fail);rw[HL.out];generalize AQ k.z a c f.types k.decl m=dc at *;generalize gD f.types m=ty at *;have a6:XN (rQ k.z a m++[C9 k.z a m]=rQ k.z a (m+1)):=(AD k.z a m).symm;generalize C9 k.z a m=vn at *;generalize Ku k.z a m=y at *;have bc:dc.size<=7000000:=by omega
    have ag:XN (uj T n k a c f.types m r S->∀D,∃N,pO T ((S.setCell ⟨n,2,XJ⟩ (Xy D)).drew) n { Ei k a c f.types m with decl:=D } N/\xV T ((S.setCell ⟨n,2,XJ⟩ (Xy D)).drew) n N r (rQ k.z a m)):=by
     rintro ⟨Z,X,V⟩ D;obtain⟨q1,q2⟩:=X.bag.set 2 (Xy D);have kd:aa [] (S.setCell ⟨n,2,XJ⟩ (Xy D)) ((S.setCell ⟨n,2,XJ⟩ (Xy D)).drew):=(aa.refl _ _).drew;exact⟨Z,(X.turn (k':={ Ei k a c f.types m with decl:=D }) q1 q2).Ur kd,(V.turn q2).Ur kd⟩
    obtain⟨D,HD⟩:∃D,XN (dc++⟨#[32,36,118,32]⟩++vn++⟨#[32,36,46,32]⟩++y++⟨#[32,36,102,32]⟩++ty++⟨#[32]⟩++vn++⟨#[32,36,46]⟩=D):=⟨_,rfl⟩
    rw[HD.out]at B
    go_cut [] from 51 to 76 (fun A=>∃N,pO T A n { Ei k a c f.types m with decl:=D } N/\xV T A n N r (rQ k.z a m))
    case first =>
     go_region
     all_goals go_wp2_with fail
     all_goals go_meet
     all_goals (case rel=>rw[HD.out];exact ag.out K.out D)
    case rest =>
     obtain⟨H2,Y,b4⟩:=hcut;have bk:=No (z:=k.z) (s:=a) (sk:=c) (ts:=f.types) (l:=k.floats) m;have y5:XI A ⟨n,5,XJ⟩=XK (Xz (H2 0).ao (AS k.z a c f.types k.floats m).length (H2 0).cap):=(by rw[Y.bag.cell];rfl);have a8:=Y.bag.lt;have bg:∀i,A.frozen? ⟨n,i,XJ⟩=XM:=fun i=>Y.bag.free i;have ac:XN _:=Y;have ad:XN _:=b4;have hD:XN _:=Y.bag.Ur ((aa.refl [] A).alloc (XE #[Xy y] 9));have s2:XN (∀j u,([Xy y]:List XQ)[j]?=XK u->(A.alloc (XE #[Xy y] 9)).cell? ((⟨A.heap.size,0,XJ⟩:Addr).add j)=XK u):=by
      intro j u hj;have hk:(A.alloc (XE #[Xy y] 9)).heap[A.heap.size]?=XK (XE #[Xy y] 9):=PM _ _;rw[ba,ab hk];simpa using hj
     have s3:XN (∀u∈([Xy y]:List XQ),u.oneCell'=XL):=(by intro u hu;simp at hu;subst hu;rfl);have a5:XN (∀j,j≠0->nz { Ei k a c f.types m with decl:=D,floats:=AS k.z a c f.types k.floats m++[y] } j=nz { Ei k a c f.types m with decl:=D } j):=yn { Ei k a c f.types m with decl:=D } (AS k.z a c f.types k.floats m++[y]) D;clear Y b4 ag U ah;go_upto_region 10 with fail
     go_cut [] from 77 to 86 (fun wd=>∃N,pO T wd n { Ei k a c f.types m with decl:=D,floats:=AS k.z a c f.types k.floats m++[y] } N/\xV T wd n N r (rQ k.z a m))
     case first =>
      go_wp2_with (at_builtin;refine aD _ rfl (.tmp 81) (.tmp 83) 22 rfl iS (Xy ⟨#[]⟩) 16 (H2 0) (au (AS k.z a c f.types k.floats m)) underlying22 W F G I rfl Qf rfl (aB.own hD.out 0) ⟨A.heap.size,0,XJ⟩ 1 1 [Xy y] rfl rfl s2.out s3.out Qf (by simp only[au];unfold maxLen;omega) (by simp only[au];omega) ?_;intro g5 P w5 x R Q;obtain⟨k5,f5,HP⟩:=aB.app hD.out (cs':=Bb { Ei k a c f.types m with decl:=D,floats:=AS k.z a c f.types k.floats m++[y] } (cX H2 0 ⟨XK ⟨g5,0,XJ⟩,P⟩)) (rows':=nz { Ei k a c f.types m with decl:=D,floats:=AS k.z a c f.types k.floats m++[y] }) 5 0 g5 P ((AS k.z a c f.types k.floats m).length+1) _ x (bJ _ _) R (by simpa using Q) a5.out _ rfl (by simp[Bb,cX,Ei]);clear x R Q)
      all_goals go_meet
      all_goals (case rel=>exact⟨_,(ac.out.Ur ((aa.refl [] A).alloc _)).turn HP.out.1 HP.out.2,(ad.out.Ur ((aa.refl [] A).alloc _)).turn HP.out.2⟩)
     case rest =>
      obtain⟨H3,X,V⟩:=hcut;clear hD s2 s3 ac ad;(go_upto_region 11 with fail);go_wp2_with (at_builtin;refine iy _ rfl (.tmp 87) (.tmp 89) 22 rfl iS (Xy ⟨#[]⟩) 16 r (au (rQ k.z a m)) [Xy vn] underlying22 W F G I rfl Qf (by simp[Act.eval,au,kS]) V.own (by simp only[au,kS];omega) (by omega) rfl rfl (by simp[Value.oneCell']) ?_;intro h5 w5 x E;rw[bJ,a6.out]at x;have C:XN _:=X.beside V E x;clear x E);rw[show(au (rQ k.z a m)).n+1=m+1 by simp[au,kS]];go_wp2;go_roundg (f.vars.length-(m+1))
      case measure=>omega
      case rel=>exact⟨m+1,h5,by omega,rfl,rfl,by go_num,⟨H3,by have:=C.out.1;unfold Ei at *;rw[B.out,J.out];exact this,C.out.2⟩⟩
   ·have a1:((gD f.types m).toList != c.toList)=XM:=(by simp[bne,M]);rw[M,PZ rfl]at B J;obtain⟨Z,X,V⟩:=K.out;go_wp2_with (at_builtin;refine iy _ rfl (.tmp 87) (.tmp 89) 22 rfl iS (Xy ⟨#[]⟩) 16 r (au (rQ k.z a m)) [Xy (C9 k.z a m)] underlying22 W F G I rfl Qf (by simp[Act.eval,au,kS]) V.own (by simp only[au,kS];omega) (by omega) rfl rfl (by simp[Value.oneCell']) ?_;intro h5 w5 x E;rw[bJ,<-AD]at x;have C:XN _:=X.beside V E x;clear x E);rw[show(au (rQ k.z a m)).n+1=m+1 by simp[au,kS]];go_wp2;go_roundg (f.vars.length-(m+1))
    case measure=>omega
    case rel=>exact⟨m+1,h5,by omega,rfl,rfl,by go_num,⟨Z,by unfold Ei at *;rw[B.out,J.out];exact C.out.1,C.out.2⟩⟩
  ·have e:m=f.vars.length:=(by omega);subst e;go_wp2;go_ret;exact⟨r,rfl,HT.out⟩
def GB(l z sg g p:ByteArray):ByteArray:=l++⟨#[10]⟩++z++sg++⟨#[32,36,112,32]⟩++g++⟨#[32,36,61,32]⟩++p++⟨#[32,36,46]⟩
def xF(k:Bk)(sg g p:ByteArray):Bk:={ k with laid:=GB k.laid k.z sg g p }
def uG(k:Bk)(sg g p:ByteArray):Bk:={ xF k sg g p with names:=k.names++[k.z++sg] }
def xG(k:Bk)(sg g p:ByteArray)(v:Int):Bk:={ uG k sg g p with verdicts:=k.verdicts++[v] }
def Oc(k:Bk)(sg g p:ByteArray)(v y:Int):Bk:={ xG k sg g p v with whys:=k.whys++[y] }
theorem Ax(k:Bk)(H:Nat->Hd)(a:ByteArray)(hd:Hd)(D:List ByteArray)(p:ByteArray)(v y:Int)(w:XP)(M:pO T w b k H)(hv:cE w hd D)(ap:D.length<=10000)(Z:∀x∈D,x.size<=100000)(hz:k.z.size<=10)(hs:a.size<=10)(hp:p.size<=1000000000)(hl:k.laid.size<=1000000000)(hn:k.names.length<=1000)(a3:k.verdicts.length<=1000)(a4:k.whys.length<=1000) :
  XO prog 28 #[XA (XK ⟨b,0,XJ⟩),Xy a,Xz hd.ao D.length hd.cap,Xy p,Xx XF v,Xx XF y] w fun e w'=>e=XH (XD #[])/\∃r,pO T w' b (Oc k a (zk D) p (if(y==0)=XL then v else 2) y) r/\aj b w H w' r:=by
 obtain⟨iS,aq,ad,ag,ah⟩:=Qq ey;obtain⟨iN,ac,I,J,K⟩:=Qq mX;have HJ:XN _:=zl hd D w hv ap Z;have av:=rJ D Z D.length (PQ _);have av:(zk D).size<=1000010000:=by unfold zk;omega
 generalize zk D=g at *;obtain⟨m,C⟩:∃m,XN ((if(y==0)=XL then v else 2)=m):=⟨_,rfl⟩
 rw[C.out];have z0:XI w ⟨b,0,XJ⟩=XK (Xy k.z):=by rw[M.bag.cell];rfl
 have a0:XI w ⟨b,12,XJ⟩=XK (Xy k.laid):=by rw[M.bag.cell];rfl
 have s:=M.bag.lt;have t:∀i,w.frozen? ⟨b,i,XJ⟩=XM:=fun i=>M.bag.free i;have B:XN (∃r,pO T ((w.setCell ⟨b,12,XJ⟩ (Xy (GB k.laid k.z a g p))).drew) b (xF k a g p) r/\aj b w H ((w.setCell ⟨b,12,XJ⟩ (Xy (GB k.laid k.z a g p))).drew) r):=by
  obtain⟨q1,q2⟩:=M.bag.set 12 (Xy (GB k.laid k.z a g p));have kd:aa [] (w.setCell ⟨b,12,XJ⟩ (Xy (GB k.laid k.z a g p))) ((w.setCell ⟨b,12,XJ⟩ (Xy (GB k.laid k.z a g p))).drew):=(aa.refl _ _).drew;exact⟨H,(M.turn (k':=xF k a g p) q1 q2).Ur kd,q2.Ur kd⟩
 have Y:XN (k.laid++⟨#[10]⟩++k.z++a++⟨#[32,36,112,32]⟩++g++⟨#[32,36,61,32]⟩++p++⟨#[32,36,46]⟩=GB k.laid k.z a g p):=rfl;clear M hv;go_enter func28,ntmps28;go_upto_region 1 with (go_at_call 27;refine PU HJ.out ?_;rintro e w1 ⟨rfl,h1⟩;rw[h1];clear h1)
 go_cut [] from 15 to 36 (fun c=>∃r,pO T c b (xF k a g p) r/\aj b w H c r)
 case first =>
  go_region
  all_goals go_wp2_with fail
  all_goals go_meet
  all_goals (case rel=>rw[Y.out];exact B.out)
 case rest =>
  obtain⟨R,L,t1⟩:=hcut;clear B Y z0 a0 s t;have z0:XI c ⟨b,0,XJ⟩=XK (Xy k.z):=by rw[L.bag.cell];rfl
  have a1:XI c ⟨b,13,XJ⟩=XK (Xz (R 4).ao k.names.length (R 4).cap):=by rw[L.bag.cell];rfl
  have s:=L.bag.lt;have t:∀i,c.frozen? ⟨b,i,XJ⟩=XM:=fun i=>L.bag.free i;have V:XN _:=L;have B:XN (aj b w H c R):=t1;have E:XN _:=L.bag.Ur ((aa.refl [] c).alloc (XE #[Xy (k.z++a)] 9)).drew;have N:XN (∀j u,([Xy (k.z++a)]:List XQ)[j]?=XK u->(c.alloc (XE #[Xy (k.z++a)] 9)).drew.cell? ((⟨c.heap.size,0,XJ⟩:Addr).add j)=XK u):=by
   intro j u hj;have hk:(c.alloc (XE #[Xy (k.z++a)] 9)).drew.heap[c.heap.size]?=XK (XE #[Xy (k.z++a)] 9):=PM _ _;rw[ba,ab hk];simpa using hj
  have O:XN (∀u∈([Xy (k.z++a)]:List XQ),u.oneCell'=XL):=by intro u G;simp at G;subst G;rfl
  have s4:XN ((au k.names).n+1<=maxLen):=by show k.names.length+1<=_;unfold maxLen;omega
  have s5:XN (((au k.names).n+1)*16<=140737488355328):=by show(k.names.length+1)*16<=_;omega
  have q:XN (∀j,j≠4->nz (uG k a g p) j=nz (xF k a g p) j):=Hi (xF k a g p) (k.names++[k.z++a]) (GB k.laid k.z a g p);have a5:¬9223372036854775807<k.z.size+a.size:=by omega
  clear L t1;go_upto_region 2 with fail
  go_cut [] from 37 to 51 (fun wd=>∃r,pO T wd b (uG k a g p) r/\aj b w H wd r)
  case first =>
   go_region_law (refine aP rfl (.tmp 41) (.tmp 48) 22 rfl iS (Xy ⟨#[]⟩) 16 (R 4) (au k.names) underlying22 aq ad ag ah rfl Qf (by simp[Act.eval] <;> rfl) (aB.own E.out 4) ⟨c.heap.size,0,XJ⟩ 1 1 [Xy (k.z++a)] (by simp[Act.eval]) rfl N.out O.out Qf s4.out s5.out ?_;intro F d w5 o l f;obtain⟨k5,f5,A⟩:=aB.app E.out (cs':=Bb (uG k a g p) (cX R 4 ⟨XK ⟨F,0,XJ⟩,d⟩)) (rows':=nz (uG k a g p)) 13 4 F d (k.names.length+1) _ o (bJ _ _) l (by simpa using f) q.out _ rfl (by simp[Bb,cX,uG,xF]);clear o l f)
   all_goals go_wp2_with fail
   all_goals go_meet
   all_goals (case rel=>exact⟨_,(V.out.Ur ((aa.refl [] c).alloc _).drew).turn A.out.1 A.out.2,(aj.Ur B.out ((aa.refl [] c).alloc _).drew).trans A.out.2⟩)
  case rest =>
   obtain⟨S,P,t2⟩:=hcut;have W:XN _:=P;have X:XN (aj b w H c S):=t2;clear E N O s4 s5 q V B z0 a1 s t;have a2:XI c ⟨b,14,XJ⟩=XK (Xz (S 5).ao k.verdicts.length (S 5).cap):=(by rw[P.bag.cell];rfl);have s:=P.bag.lt;have t:∀i,c.frozen? ⟨b,i,XJ⟩=XM:=fun i=>P.bag.free i;have E:XN _:=P.bag.Ur ((aa.refl [] c).alloc (XE #[Xx XF m] 3));have N:XN (∀j u,([Xx XF m]:List XQ)[j]?=XK u->(c.alloc (XE #[Xx XF m] 3)).cell? ((⟨c.heap.size,0,XJ⟩:Addr).add j)=XK u):=by
    intro j u hj;have hk:(c.alloc (XE #[Xx XF m] 3)).heap[c.heap.size]?=XK (XE #[Xx XF m] 3):=PM _ _;rw[ba,ab hk];simpa using hj
   have O:XN (∀u∈([Xx XF m]:List XQ),u.oneCell'=XL):=(by intro u G;simp at G;subst G;rfl);have q:XN (∀j,j≠5->nz (xG k a g p m) j=nz (uG k a g p) j):=Hj (uG k a g p) (k.verdicts++[m]);clear P t2;go_upto_if 53 with fail
   go_cut [4] from 53 to 53 (fun v4 we=>v4=Xx XF m/\we=c)
   case first =>
    cases hy:(y==0)
    ·have az:(y != 0)=XL:=(by simp[bne,hy]);rw[hy,PV (by simp)]at C;go_wp2_with fail;go_meet
     case rel=>exact⟨by rw[C.out],rfl⟩
    ·have az:(y != 0)=XM:=(by simp[bne,hy]);rw[hy,PZ rfl]at C;go_wp2_with fail;go_meet
     case rel=>exact⟨by rw[C.out],rfl⟩
   case rest =>
    obtain⟨rfl,rfl⟩:=hcut;go_upto_region 5 with fail
    go_cut [] from 54 to 63 (fun we=>∃r,pO T we b (xG k a g p m) r/\aj b w H we r)
    case first =>
     go_wp2_with (at_builtin;refine aD _ rfl (.tmp 58) (.tmp 60) 46 rfl iN (Xx XF 0) 8 (S 5) (fN k.verdicts) underlying46 ac I J K rfl Qf rfl (aB.own E.out 5) ⟨_,0,XJ⟩ 1 1 [Xx XF m] rfl rfl N.out O.out Qf (by simp only[fN];unfold maxLen;omega) (by simp only[fN];omega) ?_;intro F d w5 o l f;obtain⟨k5,f5,A⟩:=aB.app E.out (cs':=Bb (xG k a g p m) (cX S 5 ⟨XK ⟨F,0,XJ⟩,d⟩)) (rows':=nz (xG k a g p m)) 14 5 F d (k.verdicts.length+1) _ o (mH _ _) l (by simpa using f) q.out _ rfl (by simp[Bb,cX,xG,uG,xF]);clear o l f)
     all_goals go_meet
     all_goals (case rel=>exact⟨_,(W.out.Ur ((aa.refl [] _).alloc _)).turn A.out.1 A.out.2,(aj.Ur X.out ((aa.refl [] _).alloc _)).trans A.out.2⟩)
    case rest =>
     obtain⟨U,Q,t3⟩:=hcut;have ai:XN _:=Q;have am:XN (aj b w H c U):=t3;clear E N O q W X a2 s t;have a6:XI c ⟨b,15,XJ⟩=XK (Xz (U 6).ao k.whys.length (U 6).cap):=(by rw[Q.bag.cell];rfl);have s:=Q.bag.lt;have t:∀i,c.frozen? ⟨b,i,XJ⟩=XM:=fun i=>Q.bag.free i;have E:XN _:=Q.bag.Ur ((aa.refl [] c).alloc (XE #[Xx XF y] 3));have N:XN (∀j u,([Xx XF y]:List XQ)[j]?=XK u->(c.alloc (XE #[Xx XF y] 3)).cell? ((⟨c.heap.size,0,XJ⟩:Addr).add j)=XK u):=by
      intro j u hj;have hk:(c.alloc (XE #[Xx XF y] 3)).heap[c.heap.size]?=XK (XE #[Xx XF y] 3):=PM _ _;rw[ba,ab hk];simpa using hj
     have O:XN (∀u∈([Xx XF y]:List XQ),u.oneCell'=XL):=(by intro u G;simp at G;subst G;rfl);have q:XN (∀j,j≠6->nz (Oc k a g p m y) j=nz (xG k a g p m) j):=Hk (xG k a g p m) (k.whys++[y]);clear Q t3;(go_upto_region 6 with fail);go_wp2_with (at_builtin;refine aD _ rfl (.tmp 68) (.tmp 70) 46 rfl iN (Xx XF 0) 8 (U 6) (fN k.whys) underlying46 ac I J K rfl Qf rfl (aB.own E.out 6) ⟨_,0,XJ⟩ 1 1 [Xx XF y] rfl rfl N.out O.out Qf (by simp only[fN];unfold maxLen;omega) (by simp only[fN];omega) ?_;intro F d w5 o l f;obtain⟨k5,f5,A⟩:=aB.app E.out (cs':=Bb (Oc k a g p m y) (cX U 6 ⟨XK ⟨F,0,XJ⟩,d⟩)) (rows':=nz (Oc k a g p m y)) 15 6 F d (k.whys.length+1) _ o (mH _ _) l (by simpa using f) q.out _ rfl (by simp[Bb,cX,Oc,xG,uG,xF]);clear o l f)
     all_goals go_wp2
     all_goals go_end0
     all_goals exact⟨rfl,_,(ai.out.Ur ((aa.refl [] _).alloc _)).turn A.out.1 A.out.2,(aj.Ur am.out ((aa.refl [] _).alloc _)).trans A.out.2⟩
end Go.Proofs.YtnbalopedcgpcaaGreat
