import Derived.BigRegion
import Derived.Outline
import Derived.Test.YtnbalopedcgpcaaGreatG29
import Derived.Test.YtnbalopedcgpcaaGreatG30
namespace Go.Proofs.YtnbalopedcgpcaaGreat
open Go.RowKit Tryz
open Value renaming int->Xx,string->Xy,slice->Xz,pointer->XA,bool->XC,tuple->XD
open Obj renaming cells->XE
open IntKind renaming i64->XF
open Ending renaming returned->XH
open World renaming cell?->XI
open Option renaming none->XJ,some->XK
open Bool renaming true->XL,false->XM
open Go.RowKit renaming Hid->XN
open Go renaming Calls->XO,World->XP,Value->XQ
set_option maxHeartbeats 0
variable{S:List ByteArray}{L:Nat}{x:Hd}(a:Hd)(i y f:List ByteArray)(T:XP)(n v:Nat)(o D:ByteArray)(b:Nat)
def Fe(ws:List ByteArray):Nat->ByteArray
 | 0=>⟨#[]⟩
 | k+1=>(if 0<k then Fe ws k++⟨#[32]⟩ else Fe ws k)++gD ws k
def zk(ws:List ByteArray):ByteArray:=Fe ws ws.length
theorem lM(h:L<S.length):gD S L∈S:=by
 unfold gD;rw[PK,PJ h];exact PT _
theorem rJ(h:∀x∈f,x.size<=100000)(k:Nat)(d:k<=f.length):(Fe f k).size<=k*100001:=by
 induction k with
 | zero=>exact PQ _
 | succ k a =>
  have b:=a (by omega);have c:=h _ (lM (show k<f.length by omega));rw[Fe,Qd];split
  ·rw[Qd,kr];omega
  ·omega
theorem zl(v:cE T a f)(K:f.length<=10000)(r:∀x∈f,x.size<=100000) :
  XO prog 27 #[Xz a.ao f.length a.cap] T fun e F=>e=XH (Xy (zk f))/\F=T:=by
 obtain⟨n,c⟩:∃n,XN (a.ao=n):=⟨_,rfl⟩
 rw[c.out];go_enter func27,ntmps27;go_wp2
 go_loopg [3,4] f.length (fun g E i wr=>∃k:Nat,k<=f.length/\g=f.length-k/\i=Xx XF k/\E=Xy (Fe f k)/\wr=T)
 case atStart=>exact⟨0,by omega,by omega,rfl,rfl,rfl⟩
 case round =>
  obtain⟨k,B,J,rfl,rfl,rfl⟩:=hrel;by_cases b:k<f.length
  ·rcases v with m | ⟨g,j,u,t,w,o,q,H,I⟩
   ·rw[m]at b;simp at b
   ·have d:f[k]=gD f k:=(by unfold gD;rw[PK,PJ b];rfl);have G:XI wr ⟨g,j+k,XJ⟩=XK (Xy (gD f k)):=(by rw[ab o,<-d];exact q k f[k] (PJ b));obtain rfl:n=XK ⟨g,j,XJ⟩:=c.out.symm.trans w;have A:=ae o;have D:=rJ f r k B;have L:=r _ (lM b);have l:XN (Fe f (k+1)=(if 0<k then Fe f k++⟨#[32]⟩ else Fe f k)++gD f k):=rfl;have C:(k:Int)<f.length:=(by omega);clear o q d;generalize Fe f k=s at *;generalize gD f k=y at *;have z:(s++⟨#[32]⟩).size=s.size+1:=by rw[Qd];rfl
    by_cases m:0<k
    ·have p:(k:Int) > 0:=(by omega);rw[PZ m]at l;go_wp2;go_roundg (f.length-(k+1))
     case measure=>omega
     case rel=>exact⟨k+1,by omega,rfl,by go_num,congrArg Xy l.out.symm,rfl⟩
    ·have p:¬(k:Int) > 0:=(by omega);rw[PV m]at l;go_wp2;go_roundg (f.length-(k+1))
     case measure=>omega
     case rel=>exact⟨k+1,by omega,rfl,by go_num,congrArg Xy l.out.symm,rfl⟩
  ·have e:k=f.length:=(by omega);subst e;go_wp2;go_ret;exact⟨rfl,rfl⟩
def jO(us vs:List ByteArray)(x:ByteArray):List ByteArray:=match aZ us x with
 | none=>[x]
 | some k=>if((gD vs k).toList == [])=XL then [] else aV (gD vs k)
def py(us vs e:List ByteArray):List ByteArray:=e.flatMap (jO us vs)
def nX(us vs e:List ByteArray)(k:Nat):List ByteArray:=(e.take k).flatMap (jO us vs)
theorem zU(h:b<f.length):nX i y f (b+1)=nX i y f b++jO i y (gD f b):=by
 unfold nX;rw[QE h,Q1,R4];unfold gD;rw[PK,PJ h];rfl
theorem Cn(h:∀x∈f,x.size<=1000)(x:ByteArray):(jO y f x).length<=1001:=by
 unfold jO;split
 ·simp
 ·next k _ =>
  split
  ·simp
  ·have:=qx (gD f k);by_cases a:k<f.length
   ·have:=h _ (lM a);omega
   ·have e:gD f k=⟨#[]⟩:=(by unfold gD;rw[PK,QP (by omega)];rfl);rw[e]at this ⊢;have b:(⟨#[]⟩:ByteArray).size=0:=rfl;omega
theorem Jr(h:∀x∈y,x.size<=1000)(k:Nat)(d:k<=f.length):(nX i y f k).length<=k*1001:=by
 induction k with
 | zero=>simp[nX]
 | succ k a =>
  have b:=a (by omega);have c:=Cn i y h (gD f k);rw[zU i y f k (by omega),Qa];omega
set_option maxRecDepth 100000
theorem zo(z S:Hd)(e c b:List ByteArray)(w:XP)(ve:cE w a e)(vu:cE w z c)(vv:cE w S b)(a3:e.length<=990)(a4:c.length<=10000)(a5:c.length<=b.length)(hs:∀x∈b,x.size<=1000) :
  XO prog 24 #[Xz a.ao e.length a.cap,Xz z.ao c.length z.cap,Xz S.ao b.length S.cap] w fun r w'=>∃l:Hd,r=XH (Xz l.ao (py c b e).length l.cap)/\Dj w w' l (au (py c b e)):=by
 obtain⟨i0,hi,L,M,N⟩:=Qq ey;have HE:XN (nX c b e e.length=py c b e):=by show _=_;unfold nX py;rw[QJ]
 rw[<-HE.out];clear HE;obtain⟨T,E⟩:∃T,XN (a.ao=T):=⟨_,rfl⟩
 obtain⟨U,F⟩:∃U,XN (S.ao=U):=⟨_,rfl⟩
 rw[E.out,F.out];go_enter func24,ntmps24;go_wp2
 go_loopg [7,8] e.length (fun gk sv i wr=>∃(k:Nat) (l:Hd),k<=e.length/\gk=e.length-k/\i=Xx XF k/\sv=Xz l.ao (nX c b e k).length l.cap/\XN (Dj w wr l (au (nX c b e k))))
 case atStart=>exact⟨0,⟨XJ,0⟩,by omega,by omega,rfl,rfl,⟨Qj _ _ _ _,by intro x hx;simp[Hd.blk]at hx,aa.refl _ _⟩⟩
 case round =>
  obtain⟨k,l,hk,hg,rfl,rfl,D⟩:=hrel;have Z:=D.out.kept;have av:=Jr c b e hs k hk;by_cases s:k<e.length
  ·have P:XN _:=Eb z c (gD e k) wr (vu.Ur Z) (by omega);have d:XN _:=zU c b e k s;rcases(ve.Ur Z) with R | ⟨g,O,aq,t,e1,X,e3,e4,e5⟩
   ·rw[R]at s;simp at s
   have p:e[k]=gD e k:=(by unfold gD;rw[PK,PJ s];rfl);have c2:XI wr ⟨g,O+k,XJ⟩=XK (Xy (gD e k)):=(by rw[ab X,<-p];exact e3 k e[k] (PJ s));obtain rfl:T=XK ⟨g,O,XJ⟩:=E.out.symm.trans e1;have a1:=ae X;have a2:(k:Int)<e.length:=(by omega);clear X e3 p;cases C:aZ c (gD e k) with
   | none =>
    have H:XN (jO c b (gD e k)=[gD e k]):=(by show _=_;unfold jO;rw[C]);rw[C]at P;have ai:((-1:Int)<0):=by omega
    rw[H.out]at d;clear H C;generalize gD e k=y at *;(go_upto_region 6 with (go_at_call 25;refine PU P.out ?_;rintro r w1 ⟨rfl,J⟩;rw[J];clear J));unfold eT;go_wp2_with (at_builtin;refine iy _ rfl (.tmp 25) (.tmp 30) 22 rfl i0 (Xy ⟨#[]⟩) 16 l (au (nX c b e k)) [Xy y] underlying22 hi L M N rfl Qf rfl D.out.own (by simp only[au];omega) (by omega) rfl rfl (by simp[Value.oneCell']) ?_;intro Y w5 f o;rw[bJ]at f;have m:XN _:=D.out.UB o f;clear f o);rw[<-d.out]at m;have B:XN ((au (nX c b e k)).n+1=(nX c b e (k+1)).length):=by show _=_;rw[d.out];simp[au]
    rw[B.out];go_wp2;go_roundg (e.length-(k+1))
    case measure=>omega
    case rel=>exact⟨k+1,Y,by omega,rfl,by go_num,rfl,m⟩
   | some q =>
    have hq:q<c.length:=Qe.1 (Qm C);have H:XN (jO c b (gD e k)=if((gD b q).toList == [])=XL then [] else aV (gD b q)):=(by show _=_;unfold jO;rw[C]);rw[C]at P;rcases(vv.Ur Z) with R | ⟨gv,A,ah,tv,f1,Q,f3,f4,f5⟩
    ·have R:b.length=0:=(by rw[R];rfl);omega
    have p:b[q]'(by omega)=gD b q:=(by unfold gD;rw[PK,PJ (by omega)];rfl);have c3:XI wr ⟨gv,A+q,XJ⟩=XK (Xy (gD b q)):=(by rw[ab Q,<-p];exact f3 q _ (PJ (by omega)));obtain rfl:U=XK ⟨gv,A,XJ⟩:=F.out.symm.trans f1;have a0:=ae Q;have a7:=hs _ (lM (show q<b.length by omega));have a6:(q:Int)<b.length:=(by omega);have am:¬((q:Int)<0):=(by omega);rw[H.out]at d;have V:XN _:=(vN (gD b q) wr (by omega));clear H C Q f3 p;generalize gD e k=y at *;generalize gD b q=u at *;(go_upto_region 6 with (go_at_call 25;refine PU P.out ?_;rintro r w1 ⟨rfl,J⟩;rw[J];clear J));unfold eT;cases z:(u.toList == [])
    ·rw[z,PV (by simp)]at d;have ag:(u.toList != [])=XL:=(by simp[bne,z]);have ap:=qx u;have K:0<(aV u).length:=(by unfold aV;simp);(go_upto_region 10 with (go_at_call 59;refine PU V.out ?_;rintro r w2 ⟨h2,rfl,o2,Q,k2⟩));have G:XN _:=D.out.Ur k2;obtain⟨g2,I,az,-⟩:=mD o2 (show 0<(au (aV u)).n from K);have ac:XN (∀W,XK (⟨g2,0,XJ⟩:Addr)=XK W->∀j v,(strs (aV u))[j]?=XK v->w2.cell? (W.add j)=XK v):=by
      intro W ea j v hj;cases ea
      rw[ba];exact o2.cell I j v hj
     rw[I];go_wp2_with (at_builtin;refine ju _ rfl (.tmp 42) (.tmp 43) 22 rfl i0 (Xy ⟨#[]⟩) 16 l (au (nX c b e k)) underlying22 hi L M N rfl Qf rfl G.out.own (XK ⟨g2,0,XJ⟩) (aV u).length h2.cap (strs (aV u)) rfl (by simp[au,strs]) (fun q=>by cases q) ac.out (ij _) (by simp only[au];omega) (by omega) ?_;intro Y w5 f o;rw[Ab]at f;have m:XN _:=G.out.UB o f;clear f o);rw[<-d.out]at m;have B:XN ((au (nX c b e k)).n+(aV u).length=(nX c b e (k+1)).length):=by show _=_;rw[d.out];simp[au]
     rw[B.out];go_wp2;go_roundg (e.length-(k+1))
     case measure=>omega
     case rel=>exact⟨k+1,Y,by omega,rfl,by go_num,rfl,m⟩
    ·rw[z,PZ rfl,QK]at d;have ag:(u.toList != [])=XM:=(by simp[bne,z]);go_wp2;go_roundg (e.length-(k+1))
     case measure=>omega
     case rel=>exact⟨k+1,l,by omega,rfl,by go_num,by rw[d.out],by rw[d.out];exact D⟩
  ·have e:k=e.length:=(by omega);subst e;go_wp2;go_ret;exact⟨l,rfl,D.out⟩
structure Bk where
 z:ByteArray
 out:XQ
 decl:ByteArray
 disj:ByteArray
 ess:ByteArray
 floats:List ByteArray
 holds:List ByteArray
 long:Bool
 clash:Bool
 Ux:List ByteArray
 packed:ByteArray
 Uu:List ByteArray
 laid:ByteArray
 names:List ByteArray
 verdicts:List Int
 whys:List Int
 vals:List ByteArray
 goal:List ByteArray
 over:Bool
def Bb(k:Bk)(H:Nat->Hd):List XQ :=
 [Xy k.z,k.out,Xy k.decl,Xy k.disj,Xy k.ess,Xz (H 0).ao k.floats.length (H 0).cap,Xz (H 1).ao k.holds.length (H 1).cap,XC k.long,XC k.clash,Xz (H 2).ao k.Ux.length (H 2).cap,Xy k.packed,Xz (H 3).ao k.Uu.length (H 3).cap,Xy k.laid,Xz (H 4).ao k.names.length (H 4).cap,Xz (H 5).ao k.verdicts.length (H 5).cap,Xz (H 6).ao k.whys.length (H 6).cap,Xz (H 7).ao k.vals.length (H 7).cap,Xz (H 8).ao k.goal.length (H 8).cap,XC k.over]
def nz(k:Bk):Nat->fe
 | 0=>au k.floats
 | 1=>au k.holds
 | 2=>au k.Ux
 | 3=>au k.Uu
 | 4=>au k.names
 | 5=>fN k.verdicts
 | 6=>fN k.whys
 | 7=>au k.vals
 | 8=>au k.goal
 | _+9=>au []
abbrev mN (w:XP) (B:Nat) (k:Bk) (H:Nat->Hd):Prop:=aB w B 78 (Bb k H) (nz k) H
structure pO(w0 w:XP)(B:Nat)(k:Bk)(H:Nat->Hd):Prop where
 bag:mN w B k H
 new:w0.heap.size<=B/\∀x,cD H x->w0.heap.size<=x
 kept:aa [] w0 w
section
variable {w0 w w':XP} {B:Nat} {k k':Bk} {H H':Nat->Hd}
theorem pO.Ur(h:pO w0 w B k H)(q:aa [] w w'):pO w0 w' B k H:=⟨h.bag.Ur q,h.new,h.kept.trans q⟩
theorem pO.turn(h:pO w0 w B k H)(b:mN w' B k' H')(t:aj B w H w' H'):pO w0 w' B k' H':=by
 refine⟨b,⟨h.new.1,fun x a=>?_⟩,h.kept.turned t h.new.1 h.new.2⟩;rcases t.2 x a with q | q
 ·exact h.new.2 x q
 ·have:=h.kept.size;omega
structure xV(w0 w:XP)(B:Nat)(H:Nat->Hd)(hd:Hd)(l:List ByteArray):Prop where
 own:aE w hd (au l)
 far:∀x,hd.blk=XK x->w0.heap.size<=x/\x≠B/\¬cD H x
theorem xV.nil:xV w0 w B H ⟨XJ,0⟩ []:=⟨Qj _ _ _ _,by intro x a;simp[Hd.blk]at a⟩
theorem xV.Ur(h:xV w0 w B H x S)(q:aa [] w w'):xV w0 w' B H x S:=⟨h.own.Ur q,h.far⟩
theorem xV.turn(h:xV w0 w B H x S)(t:aj B w H w' H'):xV w0 w' B H' x S:=by
 refine⟨h.own.Uw (fun b a=>?_),fun b a=>?_⟩
 ·obtain⟨-,c,d⟩:=h.far b a;exact t.1.block b (h.own.lt a) (by rintro (e | e);exact c e;exact d e)
 ·obtain⟨f,c,d⟩:=h.far b a;exact⟨f,c,t.fresh b (h.own.lt a) d⟩
theorem pO.beside{f:Hd}{j:List ByteArray}(h:pO w0 w B k H)(b:xV w0 w B H x S)(g:fZ w w' x f)(o:aE w' f (au j)):pO w0 w' B k H/\xV w0 w' B H f j:=by
 have i:∀a,a∈x.blk.toList->w0.heap.size<=a/\a≠B/\¬cD H a:=fun a d=>b.far a (pd d);refine⟨⟨h.bag.kept g.kept (fun c=>(i B c).2.1 rfl) (fun a d c=>(i a c).2.2 d),h.new,?_⟩,⟨o,fun a d=>?_⟩⟩
 ·exact⟨g.kept.os.trans h.kept.os,g.kept.tape.trans h.kept.tape,g.kept.output.trans h.kept.output,Qk h.kept.size g.kept.size,fun a d _=>by rw[g.kept.block a (PY d h.kept.size) (fun c=>by have:=(i a c).1;omega)];exact h.kept.block a d (by simp)⟩
 ·rcases g.blk with e | ⟨q,e,l⟩
  ·exact b.far a (by rw[<-e];exact d)
  ·rw[e]at d;cases d
   refine⟨Qk h.kept.size l,fun e=>?_,fun e=>?_⟩
   ·have:=h.bag.lt;omega
   ·have:=h.bag.inlt e;omega
end
theorem yn(k:Bk)(v:List ByteArray)(d:ByteArray):∀j,j≠0->nz { k with floats:=v,decl:=d } j=nz k j:=by
 intro j b
 match j,b with
 | 0,b=>exact absurd rfl b
 | 1,_=>rfl
 | 2,_=>rfl
 | 3,_=>rfl
 | 4,_=>rfl
 | 5,_=>rfl
 | 6,_=>rfl
 | 7,_=>rfl
 | 8,_=>rfl
 | _+9,_=>rfl
theorem Hi(k:Bk)(v:List ByteArray)(d:ByteArray):∀j,j≠4->nz { k with laid:=d,names:=v } j=nz k j:=by
 intro j a
 match j,a with
 | 4,a=>exact absurd rfl a
 | 0,_=>rfl
 | 1,_=>rfl
 | 2,_=>rfl
 | 3,_=>rfl
 | 5,_=>rfl
 | 6,_=>rfl
 | 7,_=>rfl
 | 8,_=>rfl
 | _+9,_=>rfl
theorem Hj(k:Bk)(v:List Int):∀j,j≠5->nz { k with verdicts:=v } j=nz k j:=by
 intro j b
 match j,b with
 | 5,b=>exact absurd rfl b
 | 0,_=>rfl
 | 1,_=>rfl
 | 2,_=>rfl
 | 3,_=>rfl
 | 4,_=>rfl
 | 6,_=>rfl
 | 7,_=>rfl
 | 8,_=>rfl
 | _+9,_=>rfl
theorem Hk(k:Bk)(v:List Int):∀j,j≠6->nz { k with whys:=v } j=nz k j:=by
 intro j a
 match j,a with
 | 6,a=>exact absurd rfl a
 | 0,_=>rfl
 | 1,_=>rfl
 | 2,_=>rfl
 | 3,_=>rfl
 | 4,_=>rfl
 | 5,_=>rfl
 | 7,_=>rfl
 | 8,_=>rfl
 | _+9,_=>rfl
theorem yo(k:Bk)(v:List ByteArray):∀j,j≠8->nz { k with goal:=v } j=nz k j:=by
 intro j a
 match j,a with
 | 8,a=>exact absurd rfl a
 | 0,_=>rfl
 | 1,_=>rfl
 | 2,_=>rfl
 | 3,_=>rfl
 | 4,_=>rfl
 | 5,_=>rfl
 | 6,_=>rfl
 | 7,_=>rfl
 | _+9,_=>rfl
theorem EH(f:Nat):∀(n:Nat) (s:ByteArray),(qL f n s).size<=s.size+f:=by
 induction f with
 | zero=>intro n s;exact PQ _
 | succ f a =>
  intro n s;rw[qL];split
  ·have:=a (n / 10) (uo n++s);rw[Qd,mw]at this;omega
  ·omega
theorem oN:(dy b).size<=21:=by
 have:=EH 20 (b / 10) (uo b);rw[mw]at this;exact this
def Ci(z:ByteArray)(wh:List Int)(i:Nat)(sg:ByteArray):ByteArray:=if 0<=wh.getD i 0 then z++⟨#[102]⟩++sg++dy (wh.getD i 0).toNat else z++⟨#[101]⟩++sg++dy (-1-wh.getD i 0).toNat
set_option maxRecDepth 512
theorem LK(k:Bk)(H:Nat->Hd)(y:ByteArray)(Q:XQ)(f:Fm)(L:List Ex)(N:Hd)(o:Nat->Hd)(i:Nat)(A:ByteArray)(w:XP)(D:mN w n k H)(t:fQ w v b y Q f L N o)(E:i<f.which.length)(T:-9999<=f.which.getD i 0/\f.which.getD i 0<=9999)(U:k.z.size<=1000)(S:A.size<=1000) :
  XO prog 26 #[XA (XK ⟨n,0,XJ⟩),XA (XK ⟨v,0,XJ⟩),Xx XF i,Xy A] w fun e R=>e=XH (Xy (Ci k.z f.which i A))/\aa [] w R:=by
 have C:XI w ⟨n,0,XJ⟩=XK (Xy k.z):=by rw[D.cell];rfl
 have I:XI w ⟨v,3,XJ⟩=XK (Xz (o 1).ao f.which.length (o 1).cap):=by rw[t.bag.cell];rfl
 have a:=D.lt;have M:=t.bag.lt;obtain⟨g,p,O,J,-⟩:=LL (t.bag.own 1) E;have c:f.which[i]=f.which.getD i 0:=by rw[PK,PJ E];rfl
 rw[c]at J;rw[p]at I;have P:(i:Int)<f.which.length:=by omega
 unfold Ci;generalize f.which.getD i 0=B at *;generalize k.z=z at *;by_cases q:0<=B
 ·obtain⟨m,rfl⟩:=TP q;have l:XN _:=(ky m w (by omega));have u:=oN m;have r:((m:Nat):Int) ≥ 0:=by omega
  rw[PZ q,Sn];generalize dy m=K at *;clear p c;go_enter func26,ntmps26;go_upto_region 3 with (go_at_call 62;refine PU l.out ?_;rintro e j ⟨rfl,d⟩)
  have G:XI j ⟨n,0,XJ⟩=XK (Xy z):=by rw[Qy (d.block n a (by simp))];exact C
  have s:n<j.heap.size:=PY a d.size;go_wp2;go_ret;exact⟨rfl,d⟩
 ·obtain⟨m,x⟩:∃m:Nat,-1-B=m:=TP (by omega);have l:XN _:=(ky m w (by omega));have u:=oN m;have r:¬(B ≥ 0):=by omega
  rw[PV q,x,Sn];generalize dy m=K at *;have F:XN _:=x;clear p c x;go_enter func26,ntmps26;go_upto_region 5 with (rw[F.out];go_at_call 62;refine PU l.out ?_;rintro e j ⟨rfl,d⟩)
  have G:XI j ⟨n,0,XJ⟩=XK (Xy z):=by rw[Qy (d.block n a (by simp))];exact C
  have s:n<j.heap.size:=PY a d.size;go_wp2;go_ret;exact⟨rfl,d⟩
def C9(z s:ByteArray)(i:Nat):ByteArray:=z++s++dy i
def Ku(z s:ByteArray)(i:Nat):ByteArray:=z++⟨#[102]⟩++s++dy i
def AQ(z s sk:ByteArray)(ts:List ByteArray)(d:ByteArray):Nat->ByteArray
 | 0=>d
 | k+1=>if((gD ts k).toList==sk.toList)=XL then AQ z s sk ts d k else AQ z s sk ts d k++⟨#[32,36,118,32]⟩++C9 z s k++⟨#[32,36,46,32]⟩++Ku z s k++⟨#[32,36,102,32]⟩++gD ts k++⟨#[32]⟩++C9 z s k++⟨#[32,36,46]⟩
def AS(z s sk:ByteArray)(ts:List ByteArray)(l:List ByteArray):Nat->List ByteArray
 | 0=>l
 | k+1=>if((gD ts k).toList==sk.toList)=XL then AS z s sk ts l k else AS z s sk ts l k++[Ku z s k]
theorem rR{z s:ByteArray}(b:z.size<=10)(a:s.size<=10)(i:Nat):(C9 z s i).size<=41:=by
 have:=oN i;unfold C9;rw[Qd,Qd];omega
theorem wT{z s:ByteArray}(c:z.size<=10)(b:s.size<=10)(i:Nat):(Ku z s i).size<=42:=by
 have:=oN i;have a:(⟨#[102]⟩:ByteArray).size=1:=rfl;unfold Ku;rw[Qd,Qd,Qd];omega
set_option maxRecDepth 100000
theorem Dt{z s sk:ByteArray}{d:ByteArray}(b:z.size<=10)(a:s.size<=10)(c:∀t∈S,t.size<=1024)(k:Nat)(q:k<=S.length):(AQ z s sk S d k).size<=d.size+k*1200:=by
 induction k with
 | zero=>exact PQ _
 | succ k e =>
  have m:=e (by omega);have n:=c _ (lM (show k<S.length by omega));have o:=rR b a k;have p:=wT b a k;have f:(⟨#[32,36,118,32]⟩:ByteArray).size=4:=rfl;have g:(⟨#[32,36,46,32]⟩:ByteArray).size=4:=rfl;have i:(⟨#[32,36,102,32]⟩:ByteArray).size=4:=rfl;have j:(⟨#[32]⟩:ByteArray).size=1:=rfl;have l:(⟨#[32,36,46]⟩:ByteArray).size=3:=rfl;rw[AQ];split
  ·omega
  ·simp only[ByteArray.size_append];omega
theorem No{z s sk:ByteArray}{ts l:List ByteArray}(k:Nat):(AS z s sk ts l k).length<=l.length+k:=by
 induction k with
 | zero=>exact PQ _
 | succ k a =>
  rw[AS];split
  ·omega
  ·rw[Qa,Ra];omega
def Ei(k:Bk)(sg sk:ByteArray)(ts:List ByteArray)(m:Nat):Bk:={ k with decl:=AQ k.z sg sk ts k.decl m,floats:=AS k.z sg sk ts k.floats m }
def rQ(z s:ByteArray)(m:Nat):List ByteArray:=(List.range m).map (C9 z s)
theorem AD:rQ o D (b+1)=rQ o D b++[C9 o D b]:=by unfold rQ;rw[QM,QA];rfl
theorem kS:(rQ o D b).length=b:=by unfold rQ;simp
def uj(w0:XP)(B:Nat)(k:Bk)(sg sk:ByteArray)(ts:List ByteArray)(m:Nat)(hd:Hd)(w:XP):Prop:=∃H,pO w0 w B (Ei k sg sk ts m) H/\xV w0 w B H hd (rQ k.z sg m)
theorem uj.Ur{d w c:XP}{k:Bk}{a b:ByteArray}{m:Nat}(h:uj d L k a b S m x w)(q:aa [] w c):uj d L k a b S m x c:=by
 obtain⟨H,e,f⟩:=h;exact⟨H,e.Ur q,f.Ur q⟩
theorem GF(k:Bk)(H:Nat->Hd)(a6:ByteArray)(lv:XQ)(f:Fm)(es:List Ex)(hg:Hd)(N:Nat->Hd)(a c:ByteArray)(w:XP)(hN:pO T w n k H)(hF:fQ T v b a6 lv f es hg N)(hv:f.vars.length<=4200)(ht:f.vars.length<=f.types.length)(a1:∀t∈f.types,t.size<=1024)(hz:k.z.size<=10)(hs:a.size<=10)(a8:k.decl.size<=1000000)(be:k.floats.length<=300000000) :
  XO prog 23 #[XA (XK ⟨n,0,XJ⟩),XA (XK ⟨v,0,XJ⟩),Xy a,Xy c] w fun e w'=>∃r,e=XH (Xz r.ao f.vars.length r.cap)/\uj T n k a c f.types f.vars.length r w':=by
 obtain⟨iS,V,E,F,G⟩:=Qq ey;have a3:XN (uj T n k a c f.types 0 ⟨XJ,0⟩ w):=⟨H,hN,xV.nil⟩;have HF:XN _:=hF;have ap:∀(wr:XP) (r:Hd) (m:Nat),uj T n k a c f.types m r wr->XI wr ⟨v,4,XJ⟩=XK (Xz (N 2).ao f.vars.length (N 2).cap)/\XI wr ⟨v,5,XJ⟩=XK (Xz (N 3).ao f.types.length (N 3).cap)/\v<wr.heap.size/\n<wr.heap.size/\XI wr ⟨n,0,XJ⟩=XK (Xy k.z)/\XI wr ⟨n,2,XJ⟩=XK (Xy (AQ k.z a c f.types k.decl m))/\n≠v/\(∀i,wr.frozen? ⟨n,i,XJ⟩=XM):=fun wr r m h=>by
  obtain⟨Y,K,-⟩:=h;have q:=fQ.Ur hF K.kept;refine⟨by rw[q.bag.cell];rfl,by rw[q.bag.cell];rfl,q.bag.lt,K.bag.lt,by rw[K.bag.cell];rfl,by rw[K.bag.cell];rfl,?_,fun i=>K.bag.free i⟩;have:=hF.bag.lt;have:=K.new.1;omega
 have S:XN _:=ap;have aq:∀(wr:XP) (r:Hd) (m:Nat),uj T n k a c f.types m r wr->m<f.types.length->∃g,(N 3).ao=XK ⟨g,0,XJ⟩/\g<wr.heap.size/\XI wr ⟨g,m,XJ⟩=XK (Xy (gD f.types m))/\g≠n:=fun wr r m h hm=>by
  obtain⟨Y,K,-⟩:=h;have q:=fQ.Ur hF K.kept;have o:aE wr (N 3) (au f.types):=q.bag.own 3;obtain⟨g,eg,az,-⟩:=mD o (show 0<f.types.length by omega);refine⟨g,eg,az,?_,?_⟩
  ·rw[o.cell eg m (Xy f.types[m]) (mL _ _ hm)];unfold gD;rw[PK,PJ hm];rfl
  ·have h2:(N 3).blk=XK g:=(by unfold Hd.blk;rw[eg];rfl);have:=HF.out.bag.inlt ⟨3,h2⟩;have:=K.new.1;omega
 have ag:XN _:=aq;clear hN hF ap aq;go_enter func23,ntmps23;go_wp2
 go_loopg [9,10] f.vars.length (fun gk sv i wr=>∃(m:Nat) (r:Hd),m<=f.vars.length/\gk=f.vars.length-m/\sv=Xz r.ao m r.cap/\i=Xx XF m/\XN (uj T n k a c f.types m r wr))
 case atStart=>exact⟨0,⟨XJ,0⟩,by omega,by omega,rfl,rfl,a3⟩
 case round =>
  obtain⟨m,r,hm,bl,rfl,rfl,HT⟩:=hrel;obtain⟨c4,c5,am,ai,z0,z2,ah,av⟩:=S.out wr r m HT.out;by_cases bm:m<f.vars.length
  ·have a2:XN _:=ky m wr (by omega);have bc:=oN m;have bp:(m:Int)<f.vars.length:=(by omega);have bq:(m:Int)<f.types.length:=(by omega);have HV:XN (k.z++a++dy m=C9 k.z a m):=rfl;have HL:XN (k.z++⟨#[102]⟩++a++dy m=Ku k.z a m):=rfl;(go_upto_region 6 with (go_at_call 62;refine PU a2.out ?_;rintro e R ⟨rfl,k1⟩));have J:XN (uj T n k a c f.types m r R):=HT.out.Ur k1;clear c4 c5 am ai z0 z2 ah av k1;obtain⟨c4,c5,am,ai,z0,z2,ah,av⟩:=S.out R r m J.out;obtain⟨g,eg,az,ct,bk⟩:=ag.out R r m J.out (by omega);rw[eg]at c5;have bs:=a1 _ (lM (show m<f.types.length by omega));have bd:=Dt (sk:=c) (d:=k.decl) hz hs a1 m (by omega);have bv:=rR hz hs m;have bo:=wT hz hs m;have A:XN (AQ k.z a c f.types k.decl (m+1)=if((gD f.types m).toList==c.toList)=XL then AQ k.z a c f.types k.decl m else AQ k.z a c f.types k.decl m++⟨#[32,36,118,32]⟩++C9 k.z a m++⟨#[32,36,46,32]⟩++Ku k.z a m++⟨#[32,36,102,32]⟩++gD f.types m++⟨#[32]⟩++C9 k.z a m++⟨#[32,36,46]⟩):=rfl;have I:XN (AS k.z a c f.types k.floats (m+1)=if((gD f.types m).toList==c.toList)=XL then AS k.z a c f.types k.floats m else AS k.z a c f.types k.floats m++[Ku k.z a m]):=rfl;(go_upto_region 7 with fail);rw[HV.out];cases L:((gD f.types m).toList==c.toList)
   ·have a0:((gD f.types m).toList != c.toList)=XL:=(by simp[bne,L]);rw[L,PV (by simp)]at A I;(go_upto_region 9 with fail);rw[HL.out];generalize AQ k.z a c f.types k.decl m=dc at *;generalize gD f.types m=ty at *;have a5:XN (rQ k.z a m++[C9 k.z a m]=rQ k.z a (m+1)):=(AD k.z a m).symm;generalize C9 k.z a m=vn at *;generalize Ku k.z a m=y at *;have a9:dc.size<=7000000:=by omega
    have ad:XN (uj T n k a c f.types m r R->∀D,∃M,pO T ((R.setCell ⟨n,2,XJ⟩ (Xy D)).drew) n { Ei k a c f.types m with decl:=D } M/\xV T ((R.setCell ⟨n,2,XJ⟩ (Xy D)).drew) n M r (rQ k.z a m)):=by
     rintro ⟨Y,W,U⟩ D;obtain⟨q1,q2⟩:=W.bag.set 2 (Xy D);have kd:aa [] (R.setCell ⟨n,2,XJ⟩ (Xy D)) ((R.setCell ⟨n,2,XJ⟩ (Xy D)).drew):=(aa.refl _ _).drew;exact⟨Y,(W.turn (k':={ Ei k a c f.types m with decl:=D }) q1 q2).Ur kd,(U.turn q2).Ur kd⟩
    obtain⟨D,HD⟩:∃D,XN (dc++⟨#[32,36,118,32]⟩++vn++⟨#[32,36,46,32]⟩++y++⟨#[32,36,102,32]⟩++ty++⟨#[32]⟩++vn++⟨#[32,36,46]⟩=D):=⟨_,rfl⟩
    rw[HD.out]at A
    go_cut [] from 51 to 76 (fun wq=>∃M,pO T wq n { Ei k a c f.types m with decl:=D } M/\xV T wq n M r (rQ k.z a m))
    case first =>
     go_region
     all_goals go_wp2_with fail
     all_goals go_meet
     all_goals (case rel=>rw[HD.out];exact ad.out J.out D)
    case rest =>
     obtain⟨H2,X,b4⟩:=hcut;have bg:=No (z:=k.z) (s:=a) (sk:=c) (ts:=f.types) (l:=k.floats) m;have y5:XI wc ⟨n,5,XJ⟩=XK (Xz (H2 0).ao (AS k.z a c f.types k.floats m).length (H2 0).cap):=(by rw[X.bag.cell];rfl);have a7:=X.bag.lt;have bf:∀i,wc.frozen? ⟨n,i,XJ⟩=XM:=fun i=>X.bag.free i;have Z:XN _:=X;have ac:XN _:=b4;have hD:XN _:=X.bag.Ur ((aa.refl [] wc).alloc (XE #[Xy y] 9));have s2:XN (∀j u,([Xy y]:List XQ)[j]?=XK u->(wc.alloc (XE #[Xy y] 9)).cell? ((⟨wc.heap.size,0,XJ⟩:Addr).add j)=XK u):=by
      intro j u hj;have hk:(wc.alloc (XE #[Xy y] 9)).heap[wc.heap.size]?=XK (XE #[Xy y] 9):=PM _ _;rw[ba,ab hk];simpa using hj
     have s3:XN (∀u∈([Xy y]:List XQ),u.oneCell'=XL):=(by intro u hu;simp at hu;subst hu;rfl);have a4:XN (∀j,j≠0->nz { Ei k a c f.types m with decl:=D,floats:=AS k.z a c f.types k.floats m++[y] } j=nz { Ei k a c f.types m with decl:=D } j):=yn { Ei k a c f.types m with decl:=D } (AS k.z a c f.types k.floats m++[y]) D;clear X b4 ad S ag;go_upto_region 10 with fail
     go_cut [] from 77 to 86 (fun wd=>∃M,pO T wd n { Ei k a c f.types m with decl:=D,floats:=AS k.z a c f.types k.floats m++[y] } M/\xV T wd n M r (rQ k.z a m))
     case first =>
      go_wp2_with (at_builtin;refine aD _ rfl (.tmp 81) (.tmp 83) 22 rfl iS (Xy ⟨#[]⟩) 16 (H2 0) (au (AS k.z a c f.types k.floats m)) underlying22 V E F G rfl Qf rfl (aB.own hD.out 0) ⟨wc.heap.size,0,XJ⟩ 1 1 [Xy y] rfl rfl s2.out s3.out Qf (by simp only[au];unfold maxLen;omega) (by simp only[au];omega) ?_;intro g5 O w5 x Q P;obtain⟨k5,f5,HP⟩:=aB.app hD.out (cs':=Bb { Ei k a c f.types m with decl:=D,floats:=AS k.z a c f.types k.floats m++[y] } (cX H2 0 ⟨XK ⟨g5,0,XJ⟩,O⟩)) (rows':=nz { Ei k a c f.types m with decl:=D,floats:=AS k.z a c f.types k.floats m++[y] }) 5 0 g5 O ((AS k.z a c f.types k.floats m).length+1) _ x (bJ _ _) Q (by simpa using P) a4.out _ rfl (by simp[Bb,cX,Ei]);clear x Q P)
      all_goals go_meet
      all_goals (case rel=>exact⟨_,(Z.out.Ur ((aa.refl [] wc).alloc _)).turn HP.out.1 HP.out.2,(ac.out.Ur ((aa.refl [] wc).alloc _)).turn HP.out.2⟩)
     case rest =>
      obtain⟨H3,W,U⟩:=hcut;clear hD s2 s3 Z ac;(go_upto_region 11 with fail);go_wp2_with (at_builtin;refine iy _ rfl (.tmp 87) (.tmp 89) 22 rfl iS (Xy ⟨#[]⟩) 16 r (au (rQ k.z a m)) [Xy vn] underlying22 V E F G rfl Qf (by simp[Act.eval,au,kS]) U.own (by simp only[au,kS];omega) (by omega) rfl rfl (by simp[Value.oneCell']) ?_;intro h5 w5 x C;rw[bJ,a5.out]at x;have B:XN _:=W.beside U C x;clear x C);rw[show(au (rQ k.z a m)).n+1=m+1 by simp[au,kS]];go_wp2;go_roundg (f.vars.length-(m+1))
      case measure=>omega
      case rel=>exact⟨m+1,h5,by omega,rfl,rfl,by go_num,⟨H3,by have:=B.out.1;unfold Ei at *;rw[A.out,I.out];exact this,B.out.2⟩⟩
   ·have a0:((gD f.types m).toList != c.toList)=XM:=(by simp[bne,L]);rw[L,PZ rfl]at A I;obtain⟨Y,W,U⟩:=J.out;go_wp2_with (at_builtin;refine iy _ rfl (.tmp 87) (.tmp 89) 22 rfl iS (Xy ⟨#[]⟩) 16 r (au (rQ k.z a m)) [Xy (C9 k.z a m)] underlying22 V E F G rfl Qf (by simp[Act.eval,au,kS]) U.own (by simp only[au,kS];omega) (by omega) rfl rfl (by simp[Value.oneCell']) ?_;intro h5 w5 x C;rw[bJ,<-AD]at x;have B:XN _:=W.beside U C x;clear x C);rw[show(au (rQ k.z a m)).n+1=m+1 by simp[au,kS]];go_wp2;go_roundg (f.vars.length-(m+1))
    case measure=>omega
    case rel=>exact⟨m+1,h5,by omega,rfl,rfl,by go_num,⟨Y,by unfold Ei at *;rw[A.out,I.out];exact B.out.1,B.out.2⟩⟩
  ·have e:m=f.vars.length:=(by omega);subst e;go_wp2;go_ret;exact⟨r,rfl,HT.out⟩
def GB(l z sg g p:ByteArray):ByteArray:=l++⟨#[10]⟩++z++sg++⟨#[32,36,112,32]⟩++g++⟨#[32,36,61,32]⟩++p++⟨#[32,36,46]⟩
def xF(k:Bk)(sg g p:ByteArray):Bk:={ k with laid:=GB k.laid k.z sg g p }
def uG(k:Bk)(sg g p:ByteArray):Bk:={ xF k sg g p with names:=k.names++[k.z++sg] }
def xG(k:Bk)(sg g p:ByteArray)(v:Int):Bk:={ uG k sg g p with verdicts:=k.verdicts++[v] }
def Oc(k:Bk)(sg g p:ByteArray)(v y:Int):Bk:={ xG k sg g p v with whys:=k.whys++[y] }
theorem Ax(k:Bk)(H:Nat->Hd)(a:ByteArray)(hd:Hd)(C:List ByteArray)(p:ByteArray)(v y:Int)(w:XP)(L:pO T w b k H)(hv:cE w hd C)(am:C.length<=10000)(Y:∀x∈C,x.size<=100000)(hz:k.z.size<=10)(hs:a.size<=10)(hp:p.size<=1000000000)(hl:k.laid.size<=1000000000)(hn:k.names.length<=1000)(a2:k.verdicts.length<=1000)(a3:k.whys.length<=1000) :
  XO prog 28 #[XA (XK ⟨b,0,XJ⟩),Xy a,Xz hd.ao C.length hd.cap,Xy p,Xx XF v,Xx XF y] w fun e w'=>e=XH (XD #[])/\∃q,pO T w' b (Oc k a (zk C) p (if(y==0)=XL then v else 2) y) q/\aj b w H w' q:=by
 obtain⟨iS,ap,ac,ad,ag⟩:=Qq ey;obtain⟨iN,Z,G,I,J⟩:=Qq mX;have HJ:XN _:=zl hd C w hv am Y;have aq:=rJ C Y C.length (PQ _);have aq:(zk C).size<=1000010000:=by unfold zk;omega
 generalize zk C=g at *;obtain⟨l,B⟩:∃l,XN ((if(y==0)=XL then v else 2)=l):=⟨_,rfl⟩
 rw[B.out];have z0:XI w ⟨b,0,XJ⟩=XK (Xy k.z):=by rw[L.bag.cell];rfl
 have az:XI w ⟨b,12,XJ⟩=XK (Xy k.laid):=by rw[L.bag.cell];rfl
 have r:=L.bag.lt;have s:∀i,w.frozen? ⟨b,i,XJ⟩=XM:=fun i=>L.bag.free i;have A:XN (∃q,pO T ((w.setCell ⟨b,12,XJ⟩ (Xy (GB k.laid k.z a g p))).drew) b (xF k a g p) q/\aj b w H ((w.setCell ⟨b,12,XJ⟩ (Xy (GB k.laid k.z a g p))).drew) q):=by
  obtain⟨q1,q2⟩:=L.bag.set 12 (Xy (GB k.laid k.z a g p));have kd:aa [] (w.setCell ⟨b,12,XJ⟩ (Xy (GB k.laid k.z a g p))) ((w.setCell ⟨b,12,XJ⟩ (Xy (GB k.laid k.z a g p))).drew):=(aa.refl _ _).drew;exact⟨H,(L.turn (k':=xF k a g p) q1 q2).Ur kd,q2.Ur kd⟩
 have X:XN (k.laid++⟨#[10]⟩++k.z++a++⟨#[32,36,112,32]⟩++g++⟨#[32,36,61,32]⟩++p++⟨#[32,36,46]⟩=GB k.laid k.z a g p):=rfl;clear L hv;go_enter func28,ntmps28;go_upto_region 1 with (go_at_call 27;refine PU HJ.out ?_;rintro e w1 ⟨rfl,h1⟩;rw[h1];clear h1)
 go_cut [] from 15 to 36 (fun wq=>∃q,pO T wq b (xF k a g p) q/\aj b w H wq q)
 case first =>
  go_region
  all_goals go_wp2_with fail
  all_goals go_meet
  all_goals (case rel=>rw[X.out];exact A.out)
 case rest =>
  obtain⟨Q,K,t1⟩:=hcut;clear A X z0 az r s;have z0:XI wc ⟨b,0,XJ⟩=XK (Xy k.z):=by rw[K.bag.cell];rfl
  have a0:XI wc ⟨b,13,XJ⟩=XK (Xz (Q 4).ao k.names.length (Q 4).cap):=by rw[K.bag.cell];rfl
  have r:=K.bag.lt;have s:∀i,wc.frozen? ⟨b,i,XJ⟩=XM:=fun i=>K.bag.free i;have U:XN _:=K;have A:XN (aj b w H wc Q):=t1;have D:XN _:=K.bag.Ur ((aa.refl [] wc).alloc (XE #[Xy (k.z++a)] 9)).drew;have M:XN (∀j u,([Xy (k.z++a)]:List XQ)[j]?=XK u->(wc.alloc (XE #[Xy (k.z++a)] 9)).drew.cell? ((⟨wc.heap.size,0,XJ⟩:Addr).add j)=XK u):=by
   intro j u hj;have hk:(wc.alloc (XE #[Xy (k.z++a)] 9)).drew.heap[wc.heap.size]?=XK (XE #[Xy (k.z++a)] 9):=PM _ _;rw[ba,ab hk];simpa using hj
  have N:XN (∀u∈([Xy (k.z++a)]:List XQ),u.oneCell'=XL):=by intro u F;simp at F;subst F;rfl
  have s4:XN ((au k.names).n+1<=maxLen):=by show k.names.length+1<=_;unfold maxLen;omega
  have s5:XN (((au k.names).n+1)*16<=140737488355328):=by show(k.names.length+1)*16<=_;omega
  have o:XN (∀j,j≠4->nz (uG k a g p) j=nz (xF k a g p) j):=Hi (xF k a g p) (k.names++[k.z++a]) (GB k.laid k.z a g p);have a4:¬9223372036854775807<k.z.size+a.size:=by omega
  clear K t1;go_upto_region 2 with fail
  go_cut [] from 37 to 51 (fun wd=>∃q,pO T wd b (uG k a g p) q/\aj b w H wd q)
  case first =>
   go_region_law (refine aP rfl (.tmp 41) (.tmp 48) 22 rfl iS (Xy ⟨#[]⟩) 16 (Q 4) (au k.names) underlying22 ap ac ad ag rfl Qf (by simp[Act.eval] <;> rfl) (aB.own D.out 4) ⟨wc.heap.size,0,XJ⟩ 1 1 [Xy (k.z++a)] (by simp[Act.eval]) rfl M.out N.out Qf s4.out s5.out ?_;intro E c w5 m f d;obtain⟨k5,f5,t⟩:=aB.app D.out (cs':=Bb (uG k a g p) (cX Q 4 ⟨XK ⟨E,0,XJ⟩,c⟩)) (rows':=nz (uG k a g p)) 13 4 E c (k.names.length+1) _ m (bJ _ _) f (by simpa using d) o.out _ rfl (by simp[Bb,cX,uG,xF]);clear m f d)
   all_goals go_wp2_with fail
   all_goals go_meet
   all_goals (case rel=>exact⟨_,(U.out.Ur ((aa.refl [] wc).alloc _).drew).turn t.out.1 t.out.2,(aj.Ur A.out ((aa.refl [] wc).alloc _).drew).trans t.out.2⟩)
  case rest =>
   obtain⟨R,O,t2⟩:=hcut;have V:XN _:=O;have W:XN (aj b w H wc R):=t2;clear D M N s4 s5 o U A z0 a0 r s;have a1:XI wc ⟨b,14,XJ⟩=XK (Xz (R 5).ao k.verdicts.length (R 5).cap):=(by rw[O.bag.cell];rfl);have r:=O.bag.lt;have s:∀i,wc.frozen? ⟨b,i,XJ⟩=XM:=fun i=>O.bag.free i;have D:XN _:=O.bag.Ur ((aa.refl [] wc).alloc (XE #[Xx XF l] 3));have M:XN (∀j u,([Xx XF l]:List XQ)[j]?=XK u->(wc.alloc (XE #[Xx XF l] 3)).cell? ((⟨wc.heap.size,0,XJ⟩:Addr).add j)=XK u):=by
    intro j u hj;have hk:(wc.alloc (XE #[Xx XF l] 3)).heap[wc.heap.size]?=XK (XE #[Xx XF l] 3):=PM _ _;rw[ba,ab hk];simpa using hj
   have N:XN (∀u∈([Xx XF l]:List XQ),u.oneCell'=XL):=(by intro u F;simp at F;subst F;rfl);have o:XN (∀j,j≠5->nz (xG k a g p l) j=nz (uG k a g p) j):=Hj (uG k a g p) (k.verdicts++[l]);clear O t2;go_upto_if 53 with fail
   go_cut [4] from 53 to 53 (fun v4 we=>v4=Xx XF l/\we=wc)
   case first =>
    cases hy:(y==0)
    ·have av:(y != 0)=XL:=(by simp[bne,hy]);rw[hy,PV (by simp)]at B;go_wp2_with fail;go_meet
     case rel=>exact⟨by rw[B.out],rfl⟩
    ·have av:(y != 0)=XM:=(by simp[bne,hy]);rw[hy,PZ rfl]at B;go_wp2_with fail;go_meet
     case rel=>exact⟨by rw[B.out],rfl⟩
   case rest =>
    obtain⟨rfl,rfl⟩:=hcut;go_upto_region 5 with fail
    go_cut [] from 54 to 63 (fun we=>∃q,pO T we b (xG k a g p l) q/\aj b w H we q)
    case first =>
     go_wp2_with (at_builtin;refine aD _ rfl (.tmp 58) (.tmp 60) 46 rfl iN (Xx XF 0) 8 (R 5) (fN k.verdicts) underlying46 Z G I J rfl Qf rfl (aB.own D.out 5) ⟨_,0,XJ⟩ 1 1 [Xx XF l] rfl rfl M.out N.out Qf (by simp only[fN];unfold maxLen;omega) (by simp only[fN];omega) ?_;intro E c w5 m f d;obtain⟨k5,f5,t⟩:=aB.app D.out (cs':=Bb (xG k a g p l) (cX R 5 ⟨XK ⟨E,0,XJ⟩,c⟩)) (rows':=nz (xG k a g p l)) 14 5 E c (k.verdicts.length+1) _ m (mH _ _) f (by simpa using d) o.out _ rfl (by simp[Bb,cX,xG,uG,xF]);clear m f d)
     all_goals go_meet
     all_goals (case rel=>exact⟨_,(V.out.Ur ((aa.refl [] _).alloc _)).turn t.out.1 t.out.2,(aj.Ur W.out ((aa.refl [] _).alloc _)).trans t.out.2⟩)
    case rest =>
     obtain⟨S,P,t3⟩:=hcut;have ah:XN _:=P;have ai:XN (aj b w H wc S):=t3;clear D M N o V W a1 r s;have a5:XI wc ⟨b,15,XJ⟩=XK (Xz (S 6).ao k.whys.length (S 6).cap):=(by rw[P.bag.cell];rfl);have r:=P.bag.lt;have s:∀i,wc.frozen? ⟨b,i,XJ⟩=XM:=fun i=>P.bag.free i;have D:XN _:=P.bag.Ur ((aa.refl [] wc).alloc (XE #[Xx XF y] 3));have M:XN (∀j u,([Xx XF y]:List XQ)[j]?=XK u->(wc.alloc (XE #[Xx XF y] 3)).cell? ((⟨wc.heap.size,0,XJ⟩:Addr).add j)=XK u):=by
      intro j u hj;have hk:(wc.alloc (XE #[Xx XF y] 3)).heap[wc.heap.size]?=XK (XE #[Xx XF y] 3):=PM _ _;rw[ba,ab hk];simpa using hj
     have N:XN (∀u∈([Xx XF y]:List XQ),u.oneCell'=XL):=(by intro u F;simp at F;subst F;rfl);have o:XN (∀j,j≠6->nz (Oc k a g p l y) j=nz (xG k a g p l) j):=Hk (xG k a g p l) (k.whys++[y]);clear P t3;(go_upto_region 6 with fail);go_wp2_with (at_builtin;refine aD _ rfl (.tmp 68) (.tmp 70) 46 rfl iN (Xx XF 0) 8 (S 6) (fN k.whys) underlying46 Z G I J rfl Qf rfl (aB.own D.out 6) ⟨_,0,XJ⟩ 1 1 [Xx XF y] rfl rfl M.out N.out Qf (by simp only[fN];unfold maxLen;omega) (by simp only[fN];omega) ?_;intro E c w5 m f d;obtain⟨k5,f5,t⟩:=aB.app D.out (cs':=Bb (Oc k a g p l y) (cX S 6 ⟨XK ⟨E,0,XJ⟩,c⟩)) (rows':=nz (Oc k a g p l y)) 15 6 E c (k.whys.length+1) _ m (mH _ _) f (by simpa using d) o.out _ rfl (by simp[Bb,cX,Oc,xG,uG,xF]);clear m f d)
     all_goals go_wp2
     all_goals go_end0
     all_goals exact⟨rfl,_,(ah.out.Ur ((aa.refl [] _).alloc _)).turn t.out.1 t.out.2,(aj.Ur ai.out ((aa.refl [] _).alloc _)).trans t.out.2⟩
end Go.Proofs.YtnbalopedcgpcaaGreat
