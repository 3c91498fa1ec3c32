import Derived.Deep.CutRange
import Derived.Deep.CutBlock
import Derived.Test.YtnbalopedcgpcaaGreatG22
namespace Go.Proofs.YtnbalopedcgpcaaGreat
open Go.RowKit Tryz
open Value renaming int->Xx,string->Xy,slice->Xz,pointer->XA
open Obj renaming cells->XE
open IntKind renaming i64->XF
open Ending renaming returned->XH
open World renaming cell?->XI
open Option renaming none->XJ,some->XK
open Bool renaming true->XL,false->XM
open Go.RowKit renaming Hid->XN
open Go renaming Calls->XO,World->XP,Value->XQ
set_option maxHeartbeats 0
variable{T:ByteArray}{H S z8:XP}{b y D m:Nat}{y6:XQ}{d:List Ex}{v:Hd}{l y7:Nat->Hd}{o z2:List ByteArray}{y8:Program}{y9:Code}{ya:Act->XP->Prop}{yg:Exit->Act->XP->Prop}{yf:Act}(y1 x:XP)(z0 y2:Nat)(z5:ByteArray)(y3 I:List ByteArray)(k:List Int)(a z6:List ByteArray)(z7:List (List ByteArray))(M N g:List ByteArray)(z3:List Ex)(y4:Hd)(y5:Nat->Hd)(z1:Nat)(n:ByteArray)(L f:Nat)(y0:List ByteArray)(w:ByteArray)(z4:St)
def iL(s:ByteArray):Nat->List ByteArray×Nat
 | 0=>([],0)
 | i+1=>if(ar s i==32)=XL then((iL s i).1++[s.extract (iL s i).2 i],i+1) else iL s i
def aV(s:ByteArray):List ByteArray:=(iL s s.size).1++[s.extract (iL s s.size).2 s.size]
theorem ml(h:(ar n f==32)=XL):iL n (f+1)=((iL n f).1++[n.extract (iL n f).2 f],f+1):=by rw[iL,PJ h]
theorem mJ(h:(ar n f==32)=XM):iL n (f+1)=iL n f:=by rw[iL,PG (by rw[h];simp)]
theorem Ee(i:Nat):(iL w i).2<=i/\(iL w i).1.length<=i:=by
 induction i with
 | zero=>simp[iL]
 | succ i a =>
  cases h:(ar w i==32)
  ·rw[mJ w i h];omega
  ·rw[ml w i h];simp;omega
def iR(x:ByteArray):Prop:=∀i,i<x.size->(ar x i==32)=XM
theorem Wd.noBl(h:Wd T):iR T:=by
 intro i b;have:=(h.2 i b).1;cases e:(ar T i==32)
 ·rfl
 ·have a:ar T i=32:=by simpa using e
  rw[a]at this
  revert this;decide
theorem qx(h:iR w):aV w=[w]:=by
 have:∀i,i<=w.size->iL w i=([],0):=by
  intro i
  induction i with
  | zero=>intro _;rfl
  | succ i a=>intro b;rw[mJ w i (h i (by omega))];exact a (by omega)
 unfold aV;rw[this w.size (PB _)];simp
theorem oO(c:f<=z5.size):(z5++n).extract L f=z5.extract L f:=by
 apply Sc
 ·simp only[ByteArray.size_extract,ByteArray.size_append];omega
 ·intro i a b;rw[Ro,Ro,SU]
theorem kr:(⟨#[32]⟩:ByteArray).size=1:=rfl
theorem kP(h:iR w):aV (n++(⟨#[32]⟩++w))=aV n++[w]:=by
 have l:∀i,i<=n.size->iL (n++(⟨#[32]⟩++w)) i=iL n i:=by
  intro i
  induction i with
  | zero=>intro _;rfl
  | succ i a =>
   intro g;have a:=a (by omega);have k:=aW n (⟨#[32]⟩++w) i (by omega);cases d:(ar n i==32)
   ·rw[mJ _ i (by rw[k];exact d),mJ n i d,a]
   ·rw[ml _ i (by rw[k];exact d),ml n i d,a,oO _ _ _ _ (by omega)]
 have j:(n++(⟨#[32]⟩++w)).size=n.size+1+w.size:=by simp only[ByteArray.size_append,kr];omega
 have e:ar (n++(⟨#[32]⟩++w)) n.size=32:=by
  have:=bi n (⟨#[32]⟩++w) 0 (by simp only[ByteArray.size_append,kr];omega);rw[QJ]at this;rw[this,aW _ _ 0 (by rw[kr];omega)];decide +kernel
 have c:∀i,i<w.size->ar (n++(⟨#[32]⟩++w)) (n.size+1+i)=ar w i:=by
  intro i g;have:=bi n (⟨#[32]⟩++w) (1+i) (by simp only[ByteArray.size_append,kr];omega);rw[show n.size+1+i=n.size+(1+i) by omega,this];have b:=bi (⟨#[32]⟩:ByteArray) w i g;rw[kr]at b;exact b
 have m:∀i,i<=w.size->iL (n++(⟨#[32]⟩++w)) (n.size+1+i)=(aV n,n.size+1):=by
  intro i
  induction i with
  | zero =>
   intro _;rw[QJ,ml _ n.size (by rw[e];rfl),l _ (PB _),oO _ _ _ _ (PB _)];rfl
  | succ i a =>
   intro g;rw[show n.size+1+(i+1)=(n.size+1+i)+1 by omega,mJ _ _ (by rw[c i (by omega)];exact h i (by omega))];exact a (by omega)
 conv=>lhs;unfold aV
 rw[j,m w.size (PB _)];simp only;congr 2;apply Sc
 ·simp only[ByteArray.size_extract,j];omega
 ·intro i o b;rw[Ro];have f:=c i b;rw[aY _ _ (by rw[j];omega),aY _ _ b]at f;exact UInt8.toNat_inj.1 (by omega)
theorem uz(c:iR z4.label)(d:∀x∈z4.Ub,iR x)(k:Nat)(f:k<=z4.Ub.length):aV (jn z4 k)=z4.label :: eA z4.kind :: z4.Ub.take k:=by
 induction k with
 | zero =>
  unfold jn;simp only[List.take_zero,List.foldl_nil];rw[Rn,kP _ _ ?_,qx _ c]
  ·rfl
  ·unfold eA
   repeat' split
   all_goals (intro i b;have a:i<2:=b;match i,a with | 0,_=>decide +kernel | 1,_=>decide +kernel)
 | succ k e =>
  rw[lS z4 k (by omega),kP _ _ (d _ (PD _)),e (by omega),d7 z4.Ub k (by omega)];simp
theorem CO(a:iR z4.label)(b:∀x∈z4.Ub,iR x):aV (d8 z4)=z4.label :: eA z4.kind :: z4.Ub:=by
 unfold d8;rw[uz z4 a b _ (PB _),Qy]
set_option maxRecDepth 100000
theorem vN(B:XP)(Z:w.size<=1073741824) :
  XO prog 59 #[Xy w] B fun e T=>∃g:Hd,e=XH (Xz g.ao (aV w).length g.cap)/\aE T g (au (aV w))/\(∀x,g.blk=XK x->B.heap.size<=x)/\aa [] B T:=by
 obtain⟨S,R,H,I,J⟩:=Qg ey;go_enter func59,ntmps59;go_wp2
 go_loopg [3,4,5] w.size (fun gk V U i wr=>∃(k:Nat) (g:Hd),k<=w.size/\gk=w.size-k/\i=Xx XF k/\U=Xx XF (iL w k).2/\V=Xz g.ao (iL w k).1.length g.cap/\aE wr g (au (iL w k).1)/\(∀x,g.blk=XK x->B.heap.size<=x)/\aa [] B wr)
 case atStart=>exact⟨0,⟨XJ,0⟩,by omega,by omega,rfl,rfl,rfl,P9 _ _ _ _,by intro x s;simp[Hd.blk]at s,aa.refl _ _⟩
 case round =>
  obtain⟨k,g,Y,X,rfl,rfl,rfl,A,D,K⟩:=hrel;have F:=Ee w k;by_cases f:k<w.size
  ·have C:XN _:=ml w k;have l:XN _:=mJ w k;rw[aY w k f]at C l;generalize hsp:iL w k=O at *;obtain⟨c,a⟩:=O;simp only at F A C l ⊢;have M:(a:Int)<=k:=(by omega);cases E:(((w[k]'f).toNat:Int)==32)
   ·have t:XN _:=l.out E;clear C l;have L:(w[k]'f==32)=XM:=by
     cases e:(w[k]'f==32)
     ·rfl
     ·have Q:w[k]'f=32:=(by simpa using e);rw[Q]at E;revert E;decide
    go_wp2;go_roundg (w.size-(k+1))
    case measure=>omega
    case rel=>exact⟨k+1,g,by omega,rfl,by go_num,by rw[t.out],by rw[t.out],by rw[t.out];exact A,D,K⟩
   ·have t:XN _:=C.out E;clear C l;have L:(w[k]'f==32)=XL:=by
     have Q:((w[k]'f).toNat:Int)=32:=(by simpa using E);have:w[k]'f=32:=UInt8.toNat_inj.1 (by simp;omega);rw[this];rfl
    have p:aE (wr.alloc (XE #[Xy (w.extract a k)] 9)) g (au c):=A.Ul (fun x s=>((aa.refl [] wr).alloc _).block x (A.lt s) (by simp));go_wp2_with (at_builtin;refine aD _ rfl (.tmp 16) (.tmp 21) 22 rfl S (Xy ⟨#[]⟩) 16 g (au c) underlying22 R H I J rfl PY rfl (by exact p) ⟨_,0,XJ⟩ 1 1 [Xy (w.extract a k)] rfl rfl ?d1 ?d2 PY ?d3 ?d4 ?_)
    case d1=>intro j u r;match j,r with | 0,r=>simp at r;subst r;simp[Addr.add]
    case d2=>intro u G;simp at G;subst G;rfl
    case d3=>simp only[au];unfold maxLen;omega
    case d4=>simp only[au];omega
    intro v m W q d b;rw[bJ c (w.extract a k)]at q;have o:=K.alloc (XE #[Xy (w.extract a k)] 9);have z:=o.grown d D;have N:B.heap.size<=v:=by
     rcases b with e | e
     ·exact D v e
     ·have:=o.size;simp at e this;omega
    have y:XN ((au c).n+1=(c++[w.extract a k]).length):=(by show _=_;simp[au]);rw[y.out];clear d b p;go_wp2;go_roundg (w.size-(k+1))
    case measure=>omega
    case rel=>exact⟨k+1,⟨XK ⟨v,0,XJ⟩,m⟩,by omega,rfl,by go_num,by rw[t.out];go_num,by rw[t.out],by rw[t.out];exact q,by intro x s;simp[Hd.blk]at s;omega,z⟩
  ·have e:k=w.size:=(by omega);subst e;have P:XN (aV w=(iL w w.size).1++[w.extract (iL w w.size).2 w.size]):=rfl;generalize iL w w.size=O at *;obtain⟨c,a⟩:=O;simp only at F A P ⊢;have M:(a:Int)<=w.size:=by omega
   have p:aE (wr.alloc (XE #[Xy (w.extract a w.size)] 9)) g (au c):=A.Ul (fun x s=>((aa.refl [] wr).alloc _).block x (A.lt s) (by simp));go_wp2_with (at_builtin;refine aD _ rfl (.tmp 25) (.tmp 29) 22 rfl S (Xy ⟨#[]⟩) 16 g (au c) underlying22 R H I J rfl PY rfl (by exact p) ⟨_,0,XJ⟩ 1 1 [Xy (w.extract a w.size)] rfl rfl ?d1 ?d2 PY ?d3 ?d4 ?_)
   case d1=>intro j u r;match j,r with | 0,r=>simp at r;subst r;simp[Addr.add]
   case d2=>intro u G;simp at G;subst G;rfl
   case d3=>simp only[au];unfold maxLen;omega
   case d4=>simp only[au];omega
   intro v m W q d b;rw[bJ c (w.extract a w.size)]at q;have o:=K.alloc (XE #[Xy (w.extract a w.size)] 9);have z:=o.grown d D;have N:B.heap.size<=v:=by
    rcases b with e | e
    ·exact D v e
    ·have:=o.size;simp at e this;omega
   have y:XN ((au c).n+1=(c++[w.extract a w.size]).length):=(by show _=_;simp[au]);rw[y.out];clear d b p;go_wp2;go_ret;rw[P.out];exact⟨⟨XK ⟨v,0,XJ⟩,m⟩,rfl,q,by intro x s;simp[Hd.blk]at s;omega,z⟩
structure Fm where
 hyps:List ByteArray
 which:List Int
 vars:List ByteArray
 types:List ByteArray
 ess:List (List ByteArray)
 left:List ByteArray
 right:List ByteArray
 goal:List ByteArray
def xS:Fm:=⟨[],[],[],[],[],[],[],[]⟩
def Oo(ws:List ByteArray):Bool:=(gD ws 0).toList == [36,100]
def fZ(ws:List ByteArray)(c:UInt8):Bool:=(gD ws 1).toList == [36,c]
def bP(f:Fm)(ws:List ByteArray):Fm :=
 if Oo ws=XL then { f with left:=f.left++[gD ws 1],right:=f.right++[gD ws 2] }
 else if fZ ws 102=XL/\ws.length=4 then { f with hyps:=f.hyps++[gD ws 0],which:=f.which++[(f.vars.length:Int)],types:=f.types++[gD ws 2],vars:=f.vars++[gD ws 3] }
 else if fZ ws 101=XL then { f with hyps:=f.hyps++[gD ws 0],which:=f.which++[-1-(f.ess.length:Int)],ess:=f.ess++[ws.drop 2] }
 else { f with goal:=ws.drop 2 }
def fJ(L:List ByteArray)(k:Nat):Fm:=(L.take k).foldl (fun f x=>bP f (aV x)) xS
theorem qN(h:f<g.length):fJ g (f+1)=bP (fJ g f) (aV g[f]):=by
 unfold fJ;rw[d7 g f h,Q0];rfl
def cM(L:List ByteArray):Fm:=fJ L L.length
structure pS(lab:ByteArray)(last:Bool)(x:ByteArray):Prop where
 size:x.size<=1073741824
 len:3<=(aV x).length
 way:Oo (aV x)=XL∨(Oo (aV x)=XM/\((fZ (aV x) 102=XL/\(aV x).length=4)∨(fZ (aV x) 102=XM/\(fZ (aV x) 101=XL∨(fZ (aV x) 101=XM/\(fZ (aV x) 97=XL∨fZ (aV x) 112=XL)/\((gD (aV x) 0).toList==lab.toList)=XL/\last=XL)))))
def fM(l:List Int):fd:=⟨3,1,l.length,l.map (Xx XF)⟩
theorem mG(x:Int):(⟨(fM k).e,(fM k).size,(fM k).n+1,(fM k).xs++[Xx XF x]⟩:fd)=fM (k++[x]):=by simp[fM]
def xT(lab:ByteArray)(lv:XQ)(f:Fm)(es:List Ex)(hg:Hd)(H:Nat->Hd):List XQ :=
 [Xy lab,lv,Xz (H 0).ao f.hyps.length (H 0).cap,Xz (H 1).ao f.which.length (H 1).cap,Xz (H 2).ao f.vars.length (H 2).cap,Xz (H 3).ao f.types.length (H 3).cap,Xz (H 4).ao es.length (H 4).cap,Xz (H 5).ao f.left.length (H 5).cap,Xz (H 6).ao f.right.length (H 6).cap,Xz hg.ao f.goal.length hg.cap]
def MJ(f:Fm)(es:List Ex):Nat->fd
 | 0=>au f.hyps
 | 1=>fM f.which
 | 2=>au f.vars
 | 3=>au f.types
 | 4=>dv es
 | 5=>au f.left
 | 6=>au f.right
 | _+7=>au []
structure fP(w:XP)(F n:Nat)(lab:ByteArray)(lv:XQ)(f:Fm)(es:List Ex)(hg:Hd)(H:Nat->Hd):Prop where
 bag:aB w F 72 (xT lab lv f es hg H) (MJ f es) H
 new:n<=F/\∀k,cD H k->n<=k
 exs:∀e∈es,pP w F H e/\∀x,e.hd.blk=XK x->n<=x
 ess:es.map (·.xs)=f.ess
 gl:cE w hg f.goal/\∀x,hg.blk=XK x->x<w.heap.size/\x≠F/\¬cD H x/\n<=x
theorem fP.Ug{f:Fm}(h:fP H b y T y6 f d v l)(k:aa [] H S):fP S b y T y6 f d v l :=
 ⟨h.bag.Ug k,h.new,fun e a=>⟨(h.exs e a).1.Ug k,(h.exs e a).2⟩,h.ess,h.gl.1.Ug k,fun x c=>⟨PH (h.gl.2 x c).1 k.size,(h.gl.2 x c).2⟩⟩
theorem fP.app{f f':Fm}{es':List Ex}(h:fP H b y T y6 f d v l)(P:y<=H.heap.size)(c i g a m:Nat)(r:fd)(B:aE S ⟨XK ⟨g,0,XJ⟩,a⟩ r)(N:r=MJ f' es' i)(A:H.grownBy S (l i).blk)(n:(l i).blk=XK g∨H.heap.size<=g)(q:∀j,j≠i->MJ f' es' j=MJ f d j)(D:XQ)(O:(xT T y6 f d v l)[c]?=XK D)(M:(xT T y6 f d v l).set c (Xz (XK ⟨g,0,XJ⟩) m a)=xT T y6 f' es' v (cX l i ⟨XK ⟨g,0,XJ⟩,a⟩))(p:∀e∈es',pP H b l e/\∀x,e.hd.blk=XK x->y<=x)(w:es'.map (·.xs)=f'.ess)(z:f'.goal=f.goal) :
  XI S ⟨b,c,XJ⟩=XK D/\S.frozen? ⟨b,c,XJ⟩=XM /\
  XN (fP (S.setCell ⟨b,c,XJ⟩ (Xz (XK ⟨g,0,XJ⟩) m a)) b y T y6 f' es' v (cX l i ⟨XK ⟨g,0,XJ⟩,a⟩) /\
   aj b H l (S.setCell ⟨b,c,XJ⟩ (Xz (XK ⟨g,0,XJ⟩) m a)) (cX l i ⟨XK ⟨g,0,XJ⟩,a⟩)):=by
 obtain⟨G,I,J⟩:=h.bag.app (rows':=MJ f' es') c i g a m r B N A n q D O M;obtain⟨K,o⟩:=J.out;refine⟨G,I,⟨⟨K,⟨h.new.1,?_⟩,fun e F=>⟨(p e F).1.turned o,(p e F).2⟩,w,?_,?_⟩,o⟩⟩
 ·intro k s;rcases o.2 k s with s | s
  ·exact h.new.2 k s
  ·omega
 ·rw[z];refine h.gl.1.keptP o.1 (fun x C=>?_);obtain⟨_,t,u,_⟩:=h.gl.2 x C;rintro (e | e)
  ·exact t e
  ·exact u e
 ·intro x C;obtain⟨E,t,u,L⟩:=h.gl.2 x C;exact⟨PH E o.1.size,t,o.fresh x E u,L⟩
theorem aa.turned(k:aa [] H S)(t:aj b S l z8 y7)(d:H.heap.size<=b)(c:∀x,cD l x->H.heap.size<=x):aa [] H z8 :=
 ⟨t.1.os.trans k.os,t.1.tape.trans k.tape,t.1.output.trans k.output,Qa k.size t.1.size,fun i a _=>(t.1.block i (PH a k.size) (fun q=>q.elim (fun e=>by omega) (fun e=>by have:=c i e;omega))).trans (k.block i a (by simp))⟩
theorem fP.goal{f:Fm}(h:fP H b y T y6 f d v l)(c:List ByteArray)(a:Hd)(s:cE H a c)(o:∀x,a.blk=XK x->x<H.heap.size/\x≠b/\¬cD l x/\y<=x) :
  fP (H.setCell ⟨b,9,XJ⟩ (Xz a.ao c.length a.cap)) b y T y6 { f with goal:=c } d a l/\aj b H l (H.setCell ⟨b,9,XJ⟩ (Xz a.ao c.length a.cap)) l:=by
 obtain⟨p,g⟩:=h.bag.set 9 (Xz a.ao c.length a.cap);refine⟨⟨p,h.new,fun e n=>⟨(h.exs e n).1.turned g,(h.exs e n).2⟩,h.ess,?_,?_⟩,g⟩
 ·refine s.keptP g.1 (fun x k=>?_);obtain⟨_,i,j,_⟩:=o x k;rintro (e | e)
  ·exact i e
  ·exact j e
 ·intro x k;obtain⟨q,i,j,r⟩:=o x k;exact⟨PH q g.1.size,i,j,r⟩
structure dW(w0 w:XP)(F g:Nat)(lab:ByteArray)(L:List ByteArray)(f:Fm)(es:List Ex)(hg:Hd)(H:Nat->Hd)(gt tc:Nat)(ws:List ByteArray):Prop where
 fm:fP w F w0.heap.size lab (Xz (XK ⟨g,0,XJ⟩) L.length L.length) f es hg H
 lns:ej w g L L.length
 gf:w0.heap.size<=g/\g≠F/\¬cD H g
 tw:aE w ⟨XK ⟨gt,0,XJ⟩,tc⟩ (au ws)
 tf:gt≠F/\¬cD H gt
 kept:aa [] w0 w
 tn:w0.heap.size<=gt
theorem dW.Ug{f:Fm}(h:dW H S b y T o f d v l D m z2)(k:aa [] S z8):dW H z8 b y T o f d v l D m z2 :=
 ⟨h.fm.Ug k,h.lns.kept k (by simp),h.gf,h.tw.Ul (fun x a=>k.block x (h.tw.lt a) (by simp)),h.tf,h.kept.trans k,h.tn⟩
theorem dW.turn{f n:Fm}{a:List Ex}{c:Hd}(h:dW H S b y T o f d v l D m z2)(p:fP z8 b H.heap.size T (Xz (XK ⟨y,0,XJ⟩) o.length o.length) n a c y7)(t:aj b S l z8 y7):dW H z8 b y T o n a c y7 D m z2:=by
 have g:=ae h.lns;have i:=h.tw.lt (k:=D) rfl;refine⟨p,?_,⟨h.gf.1,h.gf.2.1,t.fresh y g h.gf.2.2⟩,?_,⟨h.tf.1,t.fresh D i h.tf.2⟩,h.kept.turned t h.fm.new.1 h.fm.new.2,h.tn⟩
 ·exact t.1.get h.lns (by rintro (e | e);exact h.gf.2.1 e;exact h.gf.2.2 e)
 ·refine h.tw.Ul (fun x j=>t.1.block x (h.tw.lt j) ?_);have e:x=D:=by simp[Hd.blk]at j;exact j.symm
  subst e;rintro (e | e)
  ·exact h.tf.1 e
  ·exact h.tf.2 e
theorem dW.app{f f':Fm}{es':List Ex}(h:dW H S b y T o f d v l D m z2)(c i k a w:Nat)(r:fd)(u:aE z8 ⟨XK ⟨k,0,XJ⟩,a⟩ r)(F:r=MJ f' es' i)(t:S.grownBy z8 (l i).blk)(g:(l i).blk=XK k∨S.heap.size<=k)(n:∀j,j≠i->MJ f' es' j=MJ f d j)(z:XQ)(G:(xT T (Xz (XK ⟨y,0,XJ⟩) o.length o.length) f d v l)[c]?=XK z)(E:(xT T (Xz (XK ⟨y,0,XJ⟩) o.length o.length) f d v l).set c (Xz (XK ⟨k,0,XJ⟩) w a)=xT T (Xz (XK ⟨y,0,XJ⟩) o.length o.length) f' es' v (cX l i ⟨XK ⟨k,0,XJ⟩,a⟩))(q:∀e∈es',pP S b l e/\∀x,e.hd.blk=XK x->H.heap.size<=x)(p:es'.map (·.xs)=f'.ess)(s:f'.goal=f.goal) :
  XI z8 ⟨b,c,XJ⟩=XK z/\z8.frozen? ⟨b,c,XJ⟩=XM /\
  XN (dW H (z8.setCell ⟨b,c,XJ⟩ (Xz (XK ⟨k,0,XJ⟩) w a)) b y T o f' es' v (cX l i ⟨XK ⟨k,0,XJ⟩,a⟩) D m z2):=by
 obtain⟨B,C,A⟩:=h.fm.app h.kept.size c i k a w r u F t g n z G E q p s;exact⟨B,C,h.turn A.out.1 A.out.2⟩
theorem dW.word{f:Fm}(h:dW H S b y T o f d v l D m z2)(j:Nat)(x:ByteArray)(a:z2[j]?=XK x):XI S ⟨D,j,XJ⟩=XK (Xy x) :=
 h.tw.cell rfl j (Xy x) (by simp[au,strs,a])
theorem dW.cell{f:Fm}(h:dW H S b y T o f d v l D m z2)(i:Nat)(a:XQ)(c:(xT T (Xz (XK ⟨y,0,XJ⟩) o.length o.length) f d v l)[i]?=XK a):XI S ⟨b,i,XJ⟩=XK a:=by
 rw[h.fm.bag.cell];exact c
theorem dW.lts{f:Fm}(h:dW H S b y T o f d v l D m z2):b<S.heap.size/\D<S.heap.size/\y<S.heap.size:=⟨h.fm.bag.lt,h.tw.lt (k:=D) rfl,ae h.lns⟩
theorem dW.rest{f:Fm}(h:dW H S b y T o f d v l D m z2):pP S b l ⟨⟨XK ⟨D,2,XJ⟩,m-2⟩,z2.drop 2⟩:=by
 have s:=h.tw.view;refine⟨?_,⟨_,rfl⟩,fun x g=>?_⟩
 ·rcases s with r | ⟨w,u,a,t,i,k,n,p,q⟩
  ·left;rw[r];rfl
  ·right
   cases i
   refine⟨D,2,a,t,rfl,k,?_,?_,?_⟩
   ·intro j x c;rw[R7]at c;have:=n (2+j) x c;rw[Sk]at this;exact this
   ·simp only[List.length_drop];have:z2.length<=m:=p;omega
   ·have:m<=9223372036854775807:=q;show m-2<=_;omega
 ·have e:x=D:=by simp[Hd.blk]at g;exact g.symm
  subst e;exact⟨h.lts.2.1,h.tf⟩
def eO(n:Nat):Code->Option Code
 | .region id ops d=>match Nat.beq id n with
  | true=>XK (.region id ops d)
  | false=>XJ
 | .seq a b=>match eO n a with
  | some c=>XK c
  | none=>eO n b
 | .cond _ a b=>match eO n a with
  | some c=>XK c
  | none=>eO n b
 | .block _ c=>eO n c
 | .loop c=>eO n c
 | .scope c=>eO n c
 | _=>XJ
def rg(gt tc:Nat)(r:List ByteArray):Ex:=⟨⟨XK ⟨gt,2,XJ⟩,tc-2⟩,r⟩
theorem kU(h:Code.wp y8 y9 (Exit.then ya (fun _ _ _=>False)) yf H):Code.wp y8 y9 (Exit.then ya yg) yf H:=by
 refine wp_mono h ?_;intro e b d a;cases e with
 | normal=>exact a
 | exit id=>exact a.elim
 | goto l=>exact a.elim
 | ret=>exact a.elim
 | panic c=>exact a.elim
 | outgrown=>exact a.elim
theorem vY(h:Code.wp y8 y9 (Exit.then ya (fun _ _ _=>False)) yf H)(c:∀a b,ya a b->yg .normal a b):Code.wp y8 y9 yg yf H:=by
 refine wp_mono h ?_;intro e a b q;cases e with
 | normal=>exact c _ _ q
 | exit id=>exact q.elim
 | goto l=>exact q.elim
 | ret=>exact q.elim
 | panic d=>exact q.elim
 | outgrown=>exact q.elim
set_option maxRecDepth 1000000
theorem Ox(hx:y0[1]?=XK w)(hW:1<f)(hb:M.length<=300000000)(S:XN (dW y1 x z0 y2 z5 y3 ⟨I,k,a,z6,z7,M,N,g⟩ z3 y4 y5 z1 L y0))(u0 u1 u2 u3 u4 u5 u7 u8 u9 ei ek el em en ep eq er et ev ew ex eL eM e0 e1 e2 e3 e4 e5 e6 e7 e8 e9 fb fc ff fi fk fl fr fs fu fv fx fF f0 f1 f2 f3 f4 f6 f8 ga gb gc hs ht hv hw hz hA hB hC hE hF hG hH gd ge gf gg gh gl gm gp gq gr gs gv gw g0 g1 g2 g3 g4 g6 g8 g9 ha hc hd he hf hh hl hm hn ho d e i l m o p q r s t v y z A B C D E F G H O P Q R T U V W X Y Z ac ad ag ah ai am ao ap aq av az a0 a1 a2 a3 a4 a5 a6 a7 a8 a9 bc bd be bf bg bk bl bm bo bp bq bs bv bw bx b0 b1 b2 b3 b4 b5 b6 b7 b8 b9 ca cb cd cf cg ch cj cl cn co cs ct cu cv cx cz cW c0 c1 c2 c3 c4 c5 c6 c7 c8 c9 dc dd dk ds dT d0 d1 d2 d3 d4 d5 ea eb ec ee ef:XQ)(J K:Act->XP->Prop)(hJ:∀a' w',(∃hI hL hM hN hO hP hQ hR hS hT hU hV:XQ,(∃H',dW y1 w' z0 y2 z5 y3 ⟨I,k,a,z6,z7,M++[w],N,g⟩ z3 y4 H' z1 L y0)/\a'=⟨#[u0,u1,u2,u3,u4,u5,XA (XK ⟨z0,0,XJ⟩),u7,u8,u9,Xz (XK ⟨z1,0,XJ⟩) f L,ei,ek,el,em,en,ep,eq,er,et,ev,ew,ex,eL,eM,e0,e1,e2,e3,e4,e5,e6,e7,e8,e9,fb,fc,ff,fi,fk,fl,fr,fs,fu,fv,fx,fF,f0,f1,f2,f3,f4,f6,f8,ga,gb,gc,hI,hL,hM,hN,hO,hP,hQ,hR,hS,hT,hU,hV,gd,ge,gf,gg,gh,gl,gm,gp,gq,gr,gs,gv,gw,g0,g1,g2,g3,g4,g6,g8,g9,ha,hc,hd,he,hf,hh,hl,hm,hn,ho,d,e,i,l,m,o,p,q,r,s,t,v,y,z,A,B,C,D,E,F,G,H,O,P,Q,R,T,U,V,W,X,Y,Z,ac,ad,ag,ah,ai,am,ao,ap,aq,av,az,a0,a1,a2,a3,a4,a5,a6,a7,a8,a9,bc,bd,be,bf,bg,bk,bl,bm,bo,bp,bq,bs,bv,bw,bx,b0,b1,b2,b3,b4,b5,b6,b7,b8,b9,ca,cb,cd,cf,cg,ch,cj,cl,cn,co,cs,ct,cu,cv,cx,cz,cW,c0,c1,c2,c3,c4,c5,c6,c7,c8,c9,dc,dd,dk,ds,dT,d0,d1,d2,d3,d4,d5,ea,eb,ec,ee,ef],[]⟩)->J a' w')(hK:∀a' w',Met J a' w'->K a' w') :
  Code.wp prog ((Tryz.f21.body.bind (eO 14)).getD .skip) (Exit.then K (fun _ _ _=>False)) ⟨#[u0,u1,u2,u3,u4,u5,XA (XK ⟨z0,0,XJ⟩),u7,u8,u9,Xz (XK ⟨z1,0,XJ⟩) f L,ei,ek,el,em,en,ep,eq,er,et,ev,ew,ex,eL,eM,e0,e1,e2,e3,e4,e5,e6,e7,e8,e9,fb,fc,ff,fi,fk,fl,fr,fs,fu,fv,fx,fF,f0,f1,f2,f3,f4,f6,f8,ga,gb,gc,hs,ht,hv,hw,hz,hA,hB,hC,hE,hF,hG,hH,gd,ge,gf,gg,gh,gl,gm,gp,gq,gr,gs,gv,gw,g0,g1,g2,g3,g4,g6,g8,g9,ha,hc,hd,he,hf,hh,hl,hm,hn,ho,d,e,i,l,m,o,p,q,r,s,t,v,y,z,A,B,C,D,E,F,G,H,O,P,Q,R,T,U,V,W,X,Y,Z,ac,ad,ag,ah,ai,am,ao,ap,aq,av,az,a0,a1,a2,a3,a4,a5,a6,a7,a8,a9,bc,bd,be,bf,bg,bk,bl,bm,bo,bp,bq,bs,bv,bw,bx,b0,b1,b2,b3,b4,b5,b6,b7,b8,b9,ca,cb,cd,cf,cg,ch,cj,cl,cn,co,cs,ct,cu,cv,cx,cz,cW,c0,c1,c2,c3,c4,c5,c6,c7,c8,c9,dc,dd,dk,ds,dT,d0,d1,d2,d3,d4,d5,ea,eb,ec,ee,ef],[]⟩ x:=by
 conv=>arg 2;whnf
 obtain⟨i0,hi,hp,hq,hr⟩:=Qg ey;have cF:=S.out.cell 7 _ rfl;have cw:=S.out.word 1 w hx;have q0:0<f:=by omega
 have q1:(1:Int)<(f:Int):=by omega
 have hX:=S.out.lts;have hD:XN _:=S.out.Ug ((aa.refl [] x).alloc (XE #[Xy w] 9)).drew;have s2:XN (∀j u,([Xy w]:List XQ)[j]?=XK u->(x.alloc (XE #[Xy w] 9)).drew.cell? ((⟨x.heap.size,0,XJ⟩:Addr).add j)=XK u):=by
  intro j u hj;rw[ba];have hk:(x.alloc (XE #[Xy w] 9)).drew.heap[x.heap.size]?=XK (XE #[Xy w] 9):=Pz _ _;rw[ab hk];simpa using hj
 have s3:XN (∀u∈([Xy w]:List XQ),u.oneCell'=XL):=by intro u hu;simp at hu;subst hu;rfl
 have s4:XN ((au M).n+1<=maxLen):=by show _<=_;simp only[au];unfold maxLen;omega
 have s5:XN (((au M).n+1)*16<=140737488355328):=by show _<=_;simp only[au];omega
 go_region_law (refine aP rfl (.tmp 61) (.tmp 65) 22 rfl i0 (Xy ⟨#[]⟩) 16 (y5 5) (au M) underlying22 hi hp hq hr rfl PY (by simp[Act.eval] <;> rfl) (hD.out.fm.bag.own 5) ⟨x.heap.size,0,XJ⟩ 1 1 [Xy w] (by simp[Act.eval]) rfl s2.out s3.out PY s4.out s5.out ?_;intro g5 eg w5 eh c b;obtain⟨k5,f5,HP⟩:=hD.out.app (f':=⟨I,k,a,z6,z7,M++[w],N,g⟩) (es':=z3) 7 5 g5 eg ((au M).n+1) _ eh (bJ M w) c (by simpa using b) (fun j hj=>by rcases j with _|_|_|_|_|_|_|j <;> first | rfl | exact absurd rfl hj) _ rfl (by simp[xT,cX,au]) hD.out.fm.exs hD.out.fm.ess rfl;clear eh c b)
 all_goals go_wp2_with fail
 all_goals go_meet
 all_goals (case rel=>exact⟨_,HP.out⟩)
theorem Oy(hx:y0[2]?=XK w)(hW:2<f)(hb:N.length<=300000000)(S:XN (dW y1 x z0 y2 z5 y3 ⟨I,k,a,z6,z7,M,N,g⟩ z3 y4 y5 z1 L y0))(u0 u1 u2 u3 u4 u5 u7 u8 u9 ei ek el em en ep eq er et ev ew ex eL eM e0 e1 e2 e3 e4 e5 e6 e7 e8 e9 fb fc ff fi fk fl fr fs fu fv fx fF f0 f1 f2 f3 f4 f6 f8 ga gb gc gd ge gf gg gh gl gm gp gq gr gs gv hs ht hv hw hz hA hB hC hE hF hG hH gw g0 g1 g2 g3 g4 g6 g8 g9 ha hc hd he hf hh hl hm hn ho d e i l m o p q r s t v y z A B C D E F G H O P Q R T U V W X Y Z ac ad ag ah ai am ao ap aq av az a0 a1 a2 a3 a4 a5 a6 a7 a8 a9 bc bd be bf bg bk bl bm bo bp bq bs bv bw bx b0 b1 b2 b3 b4 b5 b6 b7 b8 b9 ca cb cd cf cg ch cj cl cn co cs ct cu cv cx cz cW c0 c1 c2 c3 c4 c5 c6 c7 c8 c9 dc dd dk ds dT d0 d1 d2 d3 d4 d5 ea eb ec ee ef:XQ)(J K:Act->XP->Prop)(hJ:∀a' w',(∃hI hL hM hN hO hP hQ hR hS hT hU hV:XQ,(∃H',dW y1 w' z0 y2 z5 y3 ⟨I,k,a,z6,z7,M,N++[w],g⟩ z3 y4 H' z1 L y0)/\a'=⟨#[u0,u1,u2,u3,u4,u5,XA (XK ⟨z0,0,XJ⟩),u7,u8,u9,Xz (XK ⟨z1,0,XJ⟩) f L,ei,ek,el,em,en,ep,eq,er,et,ev,ew,ex,eL,eM,e0,e1,e2,e3,e4,e5,e6,e7,e8,e9,fb,fc,ff,fi,fk,fl,fr,fs,fu,fv,fx,fF,f0,f1,f2,f3,f4,f6,f8,ga,gb,gc,gd,ge,gf,gg,gh,gl,gm,gp,gq,gr,gs,gv,hI,hL,hM,hN,hO,hP,hQ,hR,hS,hT,hU,hV,gw,g0,g1,g2,g3,g4,g6,g8,g9,ha,hc,hd,he,hf,hh,hl,hm,hn,ho,d,e,i,l,m,o,p,q,r,s,t,v,y,z,A,B,C,D,E,F,G,H,O,P,Q,R,T,U,V,W,X,Y,Z,ac,ad,ag,ah,ai,am,ao,ap,aq,av,az,a0,a1,a2,a3,a4,a5,a6,a7,a8,a9,bc,bd,be,bf,bg,bk,bl,bm,bo,bp,bq,bs,bv,bw,bx,b0,b1,b2,b3,b4,b5,b6,b7,b8,b9,ca,cb,cd,cf,cg,ch,cj,cl,cn,co,cs,ct,cu,cv,cx,cz,cW,c0,c1,c2,c3,c4,c5,c6,c7,c8,c9,dc,dd,dk,ds,dT,d0,d1,d2,d3,d4,d5,ea,eb,ec,ee,ef],[]⟩)->J a' w')(hK:∀a' w',Met J a' w'->K a' w') :
  Code.wp prog ((Tryz.f21.body.bind (eO 15)).getD .skip) (Exit.then K (fun _ _ _=>False)) ⟨#[u0,u1,u2,u3,u4,u5,XA (XK ⟨z0,0,XJ⟩),u7,u8,u9,Xz (XK ⟨z1,0,XJ⟩) f L,ei,ek,el,em,en,ep,eq,er,et,ev,ew,ex,eL,eM,e0,e1,e2,e3,e4,e5,e6,e7,e8,e9,fb,fc,ff,fi,fk,fl,fr,fs,fu,fv,fx,fF,f0,f1,f2,f3,f4,f6,f8,ga,gb,gc,gd,ge,gf,gg,gh,gl,gm,gp,gq,gr,gs,gv,hs,ht,hv,hw,hz,hA,hB,hC,hE,hF,hG,hH,gw,g0,g1,g2,g3,g4,g6,g8,g9,ha,hc,hd,he,hf,hh,hl,hm,hn,ho,d,e,i,l,m,o,p,q,r,s,t,v,y,z,A,B,C,D,E,F,G,H,O,P,Q,R,T,U,V,W,X,Y,Z,ac,ad,ag,ah,ai,am,ao,ap,aq,av,az,a0,a1,a2,a3,a4,a5,a6,a7,a8,a9,bc,bd,be,bf,bg,bk,bl,bm,bo,bp,bq,bs,bv,bw,bx,b0,b1,b2,b3,b4,b5,b6,b7,b8,b9,ca,cb,cd,cf,cg,ch,cj,cl,cn,co,cs,ct,cu,cv,cx,cz,cW,c0,c1,c2,c3,c4,c5,c6,c7,c8,c9,dc,dd,dk,ds,dT,d0,d1,d2,d3,d4,d5,ea,eb,ec,ee,ef],[]⟩ x:=by
 conv=>arg 2;whnf
 obtain⟨i0,hi,hp,hq,hr⟩:=Qg ey;have cF:=S.out.cell 8 _ rfl;have cw:=S.out.word 2 w hx;have q0:0<f:=by omega
 have q1:(2:Int)<(f:Int):=by omega
 have hX:=S.out.lts;have hD:XN _:=S.out.Ug ((aa.refl [] x).alloc (XE #[Xy w] 9)).drew;have s2:XN (∀j u,([Xy w]:List XQ)[j]?=XK u->(x.alloc (XE #[Xy w] 9)).drew.cell? ((⟨x.heap.size,0,XJ⟩:Addr).add j)=XK u):=by
  intro j u hj;rw[ba];have hk:(x.alloc (XE #[Xy w] 9)).drew.heap[x.heap.size]?=XK (XE #[Xy w] 9):=Pz _ _;rw[ab hk];simpa using hj
 have s3:XN (∀u∈([Xy w]:List XQ),u.oneCell'=XL):=by intro u hu;simp at hu;subst hu;rfl
 have s4:XN ((au N).n+1<=maxLen):=by show _<=_;simp only[au];unfold maxLen;omega
 have s5:XN (((au N).n+1)*16<=140737488355328):=by show _<=_;simp only[au];omega
 go_region_law (refine aP rfl (.tmp 73) (.tmp 77) 22 rfl i0 (Xy ⟨#[]⟩) 16 (y5 6) (au N) underlying22 hi hp hq hr rfl PY (by simp[Act.eval] <;> rfl) (hD.out.fm.bag.own 6) ⟨x.heap.size,0,XJ⟩ 1 1 [Xy w] (by simp[Act.eval]) rfl s2.out s3.out PY s4.out s5.out ?_;intro g5 eg w5 eh c b;obtain⟨k5,f5,HP⟩:=hD.out.app (f':=⟨I,k,a,z6,z7,M,N++[w],g⟩) (es':=z3) 8 6 g5 eg ((au N).n+1) _ eh (bJ N w) c (by simpa using b) (fun j hj=>by rcases j with _|_|_|_|_|_|_|j <;> first | rfl | exact absurd rfl hj) _ rfl (by simp[xT,cX,au]) hD.out.fm.exs hD.out.fm.ess rfl;clear eh c b)
 all_goals go_wp2_with fail
 all_goals go_meet
 all_goals (case rel=>exact⟨_,HP.out⟩)
theorem Oz(hx:y0[0]?=XK w)(hW:0<f)(hb:I.length<=300000000)(S:XN (dW y1 x z0 y2 z5 y3 ⟨I,k,a,z6,z7,M,N,g⟩ z3 y4 y5 z1 L y0))(u0 u1 u2 u3 u4 u5 u7 u8 u9 ei ek el em en ep eq er et ev ew ex eL eM e0 e1 e2 e3 e4 e5 e6 e7 e8 e9 fb fc ff fi fk fl fr fs fu fv fx fF f0 f1 f2 f3 f4 f6 f8 ga gb gc gd ge gf gg gh gl gm gp gq gr gs gv gw g0 g1 g2 g3 g4 g6 g8 g9 ha hc hd he hf hh hl hm hn ho hp hq hr hB hC hE hF hG hH hI hL hM ef eg eh d e i l m o p q r s t v y z A B C D E F G H O P Q R T U V W X Y Z ac ad ag ah ai am ao ap aq av az a0 a1 a2 a3 a4 a5 a6 a7 a8 a9 bc bd be bf bg bk bl bm bo bp bq bs bv bw bx b0 b1 b2 b3 b4 b5 b6 b7 b8 b9 ca cb cd cf cg ch cj cl cn co cs ct cu cv cx cz cW c0 c1 c2 c3 c4 c5 c6 c7 c8 c9 dc dd dk ds dT d0 d1 d2 d3 d4 d5 ea eb:XQ)(J K:Act->XP->Prop)(hJ:∀a' w',(∃hN hO hP hQ hR hS hT hU hV hs ht hv:XQ,(∃H',dW y1 w' z0 y2 z5 y3 ⟨I++[w],k,a,z6,z7,M,N,g⟩ z3 y4 H' z1 L y0)/\a'=⟨#[u0,u1,u2,u3,u4,u5,XA (XK ⟨z0,0,XJ⟩),u7,u8,u9,Xz (XK ⟨z1,0,XJ⟩) f L,ei,ek,el,em,en,ep,eq,er,et,ev,ew,ex,eL,eM,e0,e1,e2,e3,e4,e5,e6,e7,e8,e9,fb,fc,ff,fi,fk,fl,fr,fs,fu,fv,fx,fF,f0,f1,f2,f3,f4,f6,f8,ga,gb,gc,gd,ge,gf,gg,gh,gl,gm,gp,gq,gr,gs,gv,gw,g0,g1,g2,g3,g4,g6,g8,g9,ha,hc,hd,he,hf,hh,hl,hm,hn,ho,hp,hq,hr,hN,hO,hP,hQ,hR,hS,hT,hU,hV,hs,ht,hv,d,e,i,l,m,o,p,q,r,s,t,v,y,z,A,B,C,D,E,F,G,H,O,P,Q,R,T,U,V,W,X,Y,Z,ac,ad,ag,ah,ai,am,ao,ap,aq,av,az,a0,a1,a2,a3,a4,a5,a6,a7,a8,a9,bc,bd,be,bf,bg,bk,bl,bm,bo,bp,bq,bs,bv,bw,bx,b0,b1,b2,b3,b4,b5,b6,b7,b8,b9,ca,cb,cd,cf,cg,ch,cj,cl,cn,co,cs,ct,cu,cv,cx,cz,cW,c0,c1,c2,c3,c4,c5,c6,c7,c8,c9,dc,dd,dk,ds,dT,d0,d1,d2,d3,d4,d5,ea,eb],[]⟩)->J a' w')(hK:∀a' w',Met J a' w'->K a' w') :
  Code.wp prog ((Tryz.f21.body.bind (eO 17)).getD .skip) (Exit.then K (fun _ _ _=>False)) ⟨#[u0,u1,u2,u3,u4,u5,XA (XK ⟨z0,0,XJ⟩),u7,u8,u9,Xz (XK ⟨z1,0,XJ⟩) f L,ei,ek,el,em,en,ep,eq,er,et,ev,ew,ex,eL,eM,e0,e1,e2,e3,e4,e5,e6,e7,e8,e9,fb,fc,ff,fi,fk,fl,fr,fs,fu,fv,fx,fF,f0,f1,f2,f3,f4,f6,f8,ga,gb,gc,gd,ge,gf,gg,gh,gl,gm,gp,gq,gr,gs,gv,gw,g0,g1,g2,g3,g4,g6,g8,g9,ha,hc,hd,he,hf,hh,hl,hm,hn,ho,hp,hq,hr,hB,hC,hE,hF,hG,hH,hI,hL,hM,ef,eg,eh,d,e,i,l,m,o,p,q,r,s,t,v,y,z,A,B,C,D,E,F,G,H,O,P,Q,R,T,U,V,W,X,Y,Z,ac,ad,ag,ah,ai,am,ao,ap,aq,av,az,a0,a1,a2,a3,a4,a5,a6,a7,a8,a9,bc,bd,be,bf,bg,bk,bl,bm,bo,bp,bq,bs,bv,bw,bx,b0,b1,b2,b3,b4,b5,b6,b7,b8,b9,ca,cb,cd,cf,cg,ch,cj,cl,cn,co,cs,ct,cu,cv,cx,cz,cW,c0,c1,c2,c3,c4,c5,c6,c7,c8,c9,dc,dd,dk,ds,dT,d0,d1,d2,d3,d4,d5,ea,eb],[]⟩ x:=by
 conv=>arg 2;whnf
 obtain⟨i0,hi,hw,hz,hA⟩:=Qg ey;have cF:=S.out.cell 2 _ rfl;have cw:=S.out.word 0 w hx;have q0:0<f:=by omega
 have q1:(0:Int)<(f:Int):=by omega
 have hX:=S.out.lts;have hD:XN _:=S.out.Ug ((aa.refl [] x).alloc (XE #[Xy w] 9)).drew;have s2:XN (∀j u,([Xy w]:List XQ)[j]?=XK u->(x.alloc (XE #[Xy w] 9)).drew.cell? ((⟨x.heap.size,0,XJ⟩:Addr).add j)=XK u):=by
  intro j u hj;rw[ba];have hk:(x.alloc (XE #[Xy w] 9)).drew.heap[x.heap.size]?=XK (XE #[Xy w] 9):=Pz _ _;rw[ab hk];simpa using hj
 have s3:XN (∀u∈([Xy w]:List XQ),u.oneCell'=XL):=by intro u hu;simp at hu;subst hu;rfl
 have s4:XN ((au I).n+1<=maxLen):=by show _<=_;simp only[au];unfold maxLen;omega
 have s5:XN (((au I).n+1)*16<=140737488355328):=by show _<=_;simp only[au];omega
 go_region_law (refine aP rfl (.tmp 95) (.tmp 99) 22 rfl i0 (Xy ⟨#[]⟩) 16 (y5 0) (au I) underlying22 hi hw hz hA rfl PY (by simp[Act.eval] <;> rfl) (hD.out.fm.bag.own 0) ⟨x.heap.size,0,XJ⟩ 1 1 [Xy w] (by simp[Act.eval]) rfl s2.out s3.out PY s4.out s5.out ?_;intro g5 ec w5 ee c b;obtain⟨k5,f5,HP⟩:=hD.out.app (f':=⟨I++[w],k,a,z6,z7,M,N,g⟩) (es':=z3) 2 0 g5 ec ((au I).n+1) _ ee (bJ I w) c (by simpa using b) (fun j hj=>by rcases j with _|_|_|_|_|_|_|j <;> first | rfl | exact absurd rfl hj) _ rfl (by simp[xT,cX,au]) hD.out.fm.exs hD.out.fm.ess rfl;clear ee c b)
 all_goals go_wp2_with fail
 all_goals go_meet
 all_goals (case rel=>exact⟨_,HP.out⟩)
theorem OB(hW:a.length<=300000000)(hX:z3.length<=300000000)(hb:k.length<=300000000)(S:XN (dW y1 x z0 y2 z5 y3 ⟨I,k,a,z6,z7,M,N,g⟩ z3 y4 y5 z1 L y0))(u0 u1 u2 u3 u4 u5 u7 u8 u9 d5 ei ek el em en ep eq er et ev ew ex eL eM e0 e1 e2 e3 e4 e5 e6 e7 e8 e9 fb fc ff fi fk fl fr fs fu fv fx fF f0 f1 f2 f3 f4 f6 f8 ga gb gc gd ge gf gg gh gl gm gp gq gr gs gv gw g0 g1 g2 g3 g4 g6 g8 g9 ha hc hd he hf hh hl hm hn ho hp hq hr hs ht hv hw hx hz hA hB d e i ds dT d0 d1 d2 d3 d4 ea eb ec ee ef eg eh l m o p q r s t v w y z A B C D E F G H O P Q R T U V W X Y Z ac ad ag ah ai am ao ap aq av az a0 a1 a2 a3 a4 a5 a6 a7 a8 a9 bc bd be bf bg bk bl bm bo bp bq bs bv bw bx b0 b1 b2 b3 b4 b5 b6 b7 b8 b9 ca cb cd cf cg ch cj cl cn co cs ct cu cv cx cz cW c0 c1 c2 c3 c4 c5 c6 c7 c8 c9 dc:XQ)(J K:Act->XP->Prop)(hJ:∀a' w',(∃hC hE hF hG hH hI hL hM hN hO hP hQ hR hS:XQ,(∃H',dW y1 w' z0 y2 z5 y3 ⟨I,k++[(a.length:Int)],a,z6,z7,M,N,g⟩ z3 y4 H' z1 L y0)/\a'=⟨#[u0,u1,u2,u3,u4,u5,XA (XK ⟨z0,0,XJ⟩),u7,u8,u9,Xz (XK ⟨z1,0,XJ⟩) f L,d5,ei,ek,el,em,en,ep,eq,er,et,ev,ew,ex,eL,eM,e0,e1,e2,e3,e4,e5,e6,e7,e8,e9,fb,fc,ff,fi,fk,fl,fr,fs,fu,fv,fx,fF,f0,f1,f2,f3,f4,f6,f8,ga,gb,gc,gd,ge,gf,gg,gh,gl,gm,gp,gq,gr,gs,gv,gw,g0,g1,g2,g3,g4,g6,g8,g9,ha,hc,hd,he,hf,hh,hl,hm,hn,ho,hp,hq,hr,hs,ht,hv,hw,hx,hz,hA,hB,d,e,i,hC,hE,hF,hG,hH,hI,hL,hM,hN,hO,hP,hQ,hR,hS,l,m,o,p,q,r,s,t,v,w,y,z,A,B,C,D,E,F,G,H,O,P,Q,R,T,U,V,W,X,Y,Z,ac,ad,ag,ah,ai,am,ao,ap,aq,av,az,a0,a1,a2,a3,a4,a5,a6,a7,a8,a9,bc,bd,be,bf,bg,bk,bl,bm,bo,bp,bq,bs,bv,bw,bx,b0,b1,b2,b3,b4,b5,b6,b7,b8,b9,ca,cb,cd,cf,cg,ch,cj,cl,cn,co,cs,ct,cu,cv,cx,cz,cW,c0,c1,c2,c3,c4,c5,c6,c7,c8,c9,dc],[]⟩)->J a' w')(hK:∀a' w',Met J a' w'->K a' w') :
  Code.wp prog ((Tryz.f21.body.bind (eO 18)).getD .skip) (Exit.then K (fun _ _ _=>False)) ⟨#[u0,u1,u2,u3,u4,u5,XA (XK ⟨z0,0,XJ⟩),u7,u8,u9,Xz (XK ⟨z1,0,XJ⟩) f L,d5,ei,ek,el,em,en,ep,eq,er,et,ev,ew,ex,eL,eM,e0,e1,e2,e3,e4,e5,e6,e7,e8,e9,fb,fc,ff,fi,fk,fl,fr,fs,fu,fv,fx,fF,f0,f1,f2,f3,f4,f6,f8,ga,gb,gc,gd,ge,gf,gg,gh,gl,gm,gp,gq,gr,gs,gv,gw,g0,g1,g2,g3,g4,g6,g8,g9,ha,hc,hd,he,hf,hh,hl,hm,hn,ho,hp,hq,hr,hs,ht,hv,hw,hx,hz,hA,hB,d,e,i,ds,dT,d0,d1,d2,d3,d4,ea,eb,ec,ee,ef,eg,eh,l,m,o,p,q,r,s,t,v,w,y,z,A,B,C,D,E,F,G,H,O,P,Q,R,T,U,V,W,X,Y,Z,ac,ad,ag,ah,ai,am,ao,ap,aq,av,az,a0,a1,a2,a3,a4,a5,a6,a7,a8,a9,bc,bd,be,bf,bg,bk,bl,bm,bo,bp,bq,bs,bv,bw,bx,b0,b1,b2,b3,b4,b5,b6,b7,b8,b9,ca,cb,cd,cf,cg,ch,cj,cl,cn,co,cs,ct,cu,cv,cx,cz,cW,c0,c1,c2,c3,c4,c5,c6,c7,c8,c9,dc],[]⟩ x:=by
 conv=>arg 2;whnf
 obtain⟨i0,hi,hT,hU,hV⟩:=Qg mW;have cF:=S.out.cell 3 _ rfl;have cw:=S.out.cell 4 _ rfl;have qw:IntKind.i64.wrap (-1-(z3.length:Int))=-1-(z3.length:Int):=by rw[Q4];omega
 have hY:=S.out.lts;have hD:XN _:=S.out.Ug ((aa.refl [] x).alloc (XE #[Xx XF ((a.length:Int))] 3)).drew;have s2:XN (∀j u,([Xx XF ((a.length:Int))]:List XQ)[j]?=XK u->(x.alloc (XE #[Xx XF ((a.length:Int))] 3)).drew.cell? ((⟨x.heap.size,0,XJ⟩:Addr).add j)=XK u):=by
  intro j u hj;rw[ba];have hk:(x.alloc (XE #[Xx XF ((a.length:Int))] 3)).drew.heap[x.heap.size]?=XK (XE #[Xx XF ((a.length:Int))] 3):=Pz _ _;rw[ab hk];simpa using hj
 have s3:XN (∀u∈([Xx XF ((a.length:Int))]:List XQ),u.oneCell'=XL):=by intro u hu;simp at hu;subst hu;rfl
 have s4:XN ((fM k).n+1<=maxLen):=by show _<=_;simp only[fM];unfold maxLen;omega
 have s5:XN (((fM k).n+1)*8<=140737488355328):=by show _<=_;simp only[fM];omega
 go_region_law (refine aP rfl (.tmp 107) (.tmp 113) 46 rfl i0 (Xx XF 0) 8 (y5 1) (fM k) underlying46 hi hT hU hV rfl PY (by simp[Act.eval] <;> rfl) (hD.out.fm.bag.own 1) ⟨x.heap.size,0,XJ⟩ 1 1 [Xx XF ((a.length:Int))] (by simp[Act.eval]) rfl s2.out s3.out PY s4.out s5.out ?_;intro g5 dd w5 dk c b;obtain⟨k5,f5,HP⟩:=hD.out.app (f':=⟨I,k++[(a.length:Int)],a,z6,z7,M,N,g⟩) (es':=z3) 3 1 g5 dd ((fM k).n+1) _ dk (mG k ((a.length:Int))) c (by simpa using b) (fun j hj=>by rcases j with _|_|_|_|_|_|_|j <;> first | rfl | exact absurd rfl hj) _ rfl (by simp[xT,cX,fM]) hD.out.fm.exs hD.out.fm.ess rfl;clear dk c b)
 all_goals go_wp2_with fail
 all_goals go_meet
 all_goals (case rel=>exact⟨_,HP.out⟩)
end Go.Proofs.YtnbalopedcgpcaaGreat
