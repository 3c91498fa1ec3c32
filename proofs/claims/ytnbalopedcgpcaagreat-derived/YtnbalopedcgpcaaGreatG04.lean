import Derived.Deep.RegionLaw
import Derived.Test.YtnbalopedcgpcaaGreatG03
namespace Go.Proofs.YtnbalopedcgpcaaGreat
open Go.RowKit Tryz
open Value renaming int->Xx,string->Xy,slice->Xz,pointer->XA,bool->XC,tuple->XD
open Obj renaming cells->XE
open IntKind renaming i64->XF,u8->XG
open Ending renaming returned->XH
open World renaming cell?->XI
open Option renaming none->XJ,some->XK
open Bool renaming true->XL,false->XM
open Go.RowKit renaming Hid->XN
open Go renaming Calls->XO,World->XP,Value->XQ
set_option maxHeartbeats 0
variable{d:Nat}{k:Nat->Bool}(n S:Nat)(y:List ByteArray)(H:Nat)(T x:List XQ)(w:Db)(l:Nat->Hd)(v:List ByteArray)(b:ByteArray)(f:XP)
structure eu(d:Db)(N:Nat):Prop where
 Uu:d.Uu.length<=N
 Uo:d.Uo.length<=N
 Up:d.Up.length<=N
 Uv:d.Uv.length<=N
 Uy:d.Uy.length<=N
 blocks:d.blocks.length<=N
 UD:d.UD.length<=N
 rbl:d.rbl.length<=N
 Um:d.Um.length<=N
 Ux:d.Ux.length<=N
theorem mI:(⟨(au y).e,(au y).size,(au y).n+v.length,(au y).xs++strs v⟩:fe)=au (y++v):=by
 simp[au,strs]
theorem ij:∀u∈strs v,u.oneCell'=XL:=by
 intro u a;simp only[strs,List.mem_map]at a;obtain⟨x,_,rfl⟩:=a;rfl
set_option maxRecDepth 100000
theorem pW(h:aO f n S T x w l)(D:T.length=H)(O:0<w.Um.length)(E:eu w 100000000) :
  XO prog 202 #[XA (XK ⟨n,H,XJ⟩),Xz (l 8).ao w.Um.length (l 8).cap] f fun e F=>e=XH (XD #[])/\∃y,aO F n S T x { w with Uo:=w.Uo++w.Um } y/\aj n f l F y:=by
 obtain⟨P,K,p,q,r⟩:=Qq ey;obtain⟨Q,R,U,V,W,X,Y,Z,q8,q9,s,t,v⟩:=h.cells H D;have o:=h.free;have J:=h.lt;have b:=h.own 1;have d:aE f (l 8) (au w.Um):=h.own 8;have M:=E.Uo;have N:=E.Um;rcases d.UC with ⟨_,I,_⟩ | ⟨C,A,B,_⟩
 ·have:w.Um.length=0:=I;omega
 ·rw[B];have c:XN (∀j u,(strs w.Um)[j]?=XK u->f.cell? ((⟨C,0,XJ⟩:Addr).add j)=XK u):=fun j u L=>by rw[ba];exact d.cell B j u L
  clear d;go_enter func202,ntmps202;go_wp2_with (at_builtin;refine aD _ rfl (.tmp 8) (.tmp 9) 22 rfl P (Xy ⟨#[]⟩) 16 (l 1) (au w.Uo) underlying22 K p q r rfl Qf rfl b ⟨C,0,XJ⟩ w.Um.length (l 8).cap (strs w.Um) rfl ?c0 c.out (ij _) O ?c3 ?c4 ?_)
  case c0=>simp[strs,au]
  case c3=>simp only[au];unfold maxLen;omega
  case c4=>simp only[au];omega
  ·intro g i w1 m k a;obtain⟨k0,f0,z⟩:=h.app (d':={ w with Uo:=w.Uo++w.Um }) H 1 D 1 (by omega) g i ((au w.Uo).n+w.Um.length) _ m (mI w.Uo w.Um) k a (tJ w l _) (by omega) _ rfl (by simp[bM,cX,au]);clear b Q R U V W X Y Z q8 q9 s t v m k a o c;go_wp2;go_end0;exact⟨rfl,_,z.out.1,z.out.2⟩
def bS(v l:List ByteArray):List ByteArray:=l.foldl (fun v x=>if aM v x=XL then v else v++[x]) v
def dx(d:Db)(k:Nat):Db:={ d with Uv:=d.Uv++d.Um,Up:=bS d.Up (d.Um.take k) }
theorem GI:bS y (v++[b])=if aM (bS y v) b=XL then bS y v else bS y v++[b]:=by
 unfold bS;rw[Rb];rfl
theorem AA(v l:List ByteArray):(bS v l).length<=v.length+l.length:=by
 induction l generalizing v with
 | nil=>simp[bS]
 | cons x l a =>
  have:=a (if aM v x=XL then v else v++[x]);have e:bS v (x :: l)=bS (if aM v x=XL then v else v++[x]) l:=rfl;rw[e];have b:(if aM v x=XL then v else v++[x]).length<=v.length+1:=by split <;> simp
  simp only[List.length_cons];omega
theorem d7{α:Type}(l:List α)(k:Nat)(h:k<l.length):l.take (k+1)=l.take k++[l[k]]:=by simp
theorem pX(h:aO f n S T x w l)(F:T.length=H)(hm:0<w.Um.length)(hs:eu w 100000000) :
  XO prog 203 #[XA (XK ⟨n,H,XJ⟩),Xz (l 8).ao w.Um.length (l 8).cap] f fun e w'=>e=XH (XD #[])/\∃H',aO w' n S T x (dx w w.Um.length) H'/\aj n f l w' H':=by
 obtain⟨i0,hi,I,J,K⟩:=Qq ey;obtain⟨L,M,Z,N,O,P,Q,R,U,V,t,v,y⟩:=h.cells H F;have z:=h.free;have ah:=h.lt;have A:=h.own 3;have m:aE f (l 8) (au w.Um):=h.own 8;have ai:=hs.Uv;have am:=hs.Um;have ap:=hs.Up;rcases m.UC with ⟨_,h0,_⟩ | ⟨g8,ac,e8,_⟩
 ·have:w.Um.length=0:=h0;omega
 ·rw[e8];have B:XN (∀j u,(strs w.Um)[j]?=XK u->f.cell? ((⟨g8,0,XJ⟩:Addr).add j)=XK u):=fun j u hj=>by rw[ba];exact m.cell e8 j u hj
  clear m;go_enter func203,ntmps203;go_wp2_with (at_builtin;refine aD _ rfl (.tmp 9) (.tmp 10) 22 rfl i0 (Xy ⟨#[]⟩) 16 (l 3) (au w.Uv) underlying22 hi I J K rfl Qf rfl A ⟨g8,0,XJ⟩ w.Um.length (l 8).cap (strs w.Um) rfl ?c0 B.out (ij _) hm ?c3 ?c4 ?_)
  case c0=>simp[strs,au]
  case c3=>simp only[au];unfold maxLen;omega
  case c4=>simp only[au];omega
  ·intro g p w1 r q a;obtain⟨k0,f0,C⟩:=h.app (d':=dx w 0) H 3 F 3 (by omega) g p ((au w.Uv).n+w.Um.length) _ r (mI w.Uv w.Um) q a (qW w l _) (by omega) _ rfl (by simp[bM,cX,au,dx,bS]);clear A L M Z N O P Q R U V t v y r q a z B;go_wp2
   go_loopg [4] w.Um.length (fun g i wr=>∃(k:Nat) (d:Nat->Hd),k<=w.Um.length/\g=w.Um.length-k/\i=Xx XF k/\d 8=l 8/\aO wr n S T x (dx w k) d/\aj n f l wr d)
   case atStart=>exact⟨0,_,by omega,by omega,rfl,by simp[cX],C.out.1,C.out.2⟩
   case round =>
    obtain⟨k,d,hk,hg,rfl,h8,D,Y⟩:=hrel;clear C k0 f0;by_cases E:k<w.Um.length
    ·obtain⟨L,M,Z,N,O,P,Q,R,U,V,t,v,y⟩:=D.cells H F;have m:aE wr (l 8) (au w.Um):=(by have:=D.own 8;rw[h8]at this;exact this);have c1:=m.cell e8 k (Xy w.Um[k]) (mL w.Um k E);have G:(dx w k).Up.length<=1073741824:=by
      have:=AA w.Up (w.Um.take k);simp only[List.length_take]at this
      show(bS w.Up (w.Um.take k)).length<=_
      omega
     have z:=D.free;have X:XN (dx w (k+1)=if aM (dx w k).Up w.Um[k]=XL then dx w k else { dx w k with Up:=(dx w k).Up++[w.Um[k]] }):=by
      show dx w (k+1)=_;unfold dx;rw[d7 w.Um k E,GI];simp only;split <;> rfl
     generalize dx w k=b at *;generalize w.Um[k]=c at *;clear L M N O P Q R U V t v y m;cases hb:aM b.Up c
     ·have HT:XN (dx w (k+1)={ b with Up:=b.Up++[c] }):=(by show dx w (k+1)=_;rw[X.out];simp[hb]);clear X;go_wp2_with fail;go_quiet ((go_at_call 188;exact QC (dL (d 2) b.Up c _ (D.Ur ((aa.refl [] _).drewN _) |>.own 2) G)));obtain⟨o,s⟩:∃o,o=wr.drewN nq:=⟨_,rfl⟩
      rw[<-s];have W:aO o n S T x b d:=by rw[s];exact D.Ur ((aa.refl [] _).drewN _)
      have T2:aj n f l o d:=(by rw[s];exact Y.Ur ((aa.refl [] _).drewN _));have ad:XI o ⟨g8,k,XJ⟩=XK (Xy c):=(by rw[s];exact c1);clear s c1 D Y z Z;obtain⟨L,M,Z,N,O,P,Q,R,U,V,t,v,y⟩:=W.cells H F;have z:=W.free;have ag:=W.lt;clear L M N O P Q R U V t v y;have hD:XN (aO (o.alloc (XE #[Xy c] 9)).drew n S T x b d):=W.Ur ((aa.refl [] o).alloc _).drew;have s2:XN (∀j u,([Xy c]:List XQ)[j]?=XK u->(o.alloc (XE #[Xy c] 9)).drew.cell? ((⟨o.heap.size,0,XJ⟩:Addr).add j)=XK u):=by
       intro j u hj;have hk:(o.alloc (XE #[Xy c] 9)).drew.heap[o.heap.size]?=XK (XE #[Xy c] 9):=PM o _;rw[ba,ab hk];simpa using hj
      have s3:XN (∀u∈([Xy c]:List XQ),u.oneCell'=XL):=(by intro u hu;simp at hu;subst hu;rfl);have s4:XN ((au b.Up).n+1<=maxLen):=(by show _<=_;simp only[au];unfold maxLen;omega);have s5:XN (((au b.Up).n+1)*16<=140737488355328):=(by show _<=_;simp only[au];omega);go_wp2_with fail;go_region_law (refine aP rfl (.tmp 34) (.tmp 39) 22 rfl i0 (Xy ⟨#[]⟩) 16 (d 2) (au b.Up) underlying22 hi I J K rfl Qf (by simp[Act.eval] <;> rfl) (hD.out.own 2) ⟨o.heap.size,0,XJ⟩ 1 1 [Xy c] (by simp[Act.eval]) rfl s2.out s3.out Qf s4.out s5.out ?_;intro g p w1 r q a;obtain⟨k5,f5,C⟩:=hD.out.app (d':={ b with Up:=b.Up++[c] }) H 2 F 2 (by omega) g p ((au b.Up).n+1) _ r (bJ b.Up c) q (by simpa using a) (tM b d _) (by omega) _ rfl (by simp[bM,cX,au]);clear r q a)
      all_goals go_wp2
      all_goals
       go_roundg (w.Um.length-(k+1))
       case measure=>omega
       case rel=>exact⟨k+1,_,by omega,rfl,by go_num,by simp[cX,h8],by rw[HT.out];exact C.out.1,T2.trans (C.out.2.first ((aa.refl [] _).alloc _).drew)⟩
     ·have HT:XN (dx w (k+1)=b):=(by show dx w (k+1)=_;rw[X.out];simp[hb]);clear X;go_wp2_with fail;go_quiet ((go_at_call 188;exact QC (dL (d 2) b.Up c _ (D.Ur ((aa.refl [] _).drewN _) |>.own 2) G)));go_wp2;go_roundg (w.Um.length-(k+1))
      case measure=>omega
      case rel=>exact⟨k+1,d,by omega,rfl,by go_num,h8,by rw[HT.out];exact D.Ur ((aa.refl [] _).drewN _),Y.Ur ((aa.refl [] _).drewN _)⟩
    ·have e:k=w.Um.length:=(by omega);subst e;go_wp2;go_end0;exact⟨rfl,d,D,Y⟩
def gI(n:Int):Bool:=(decide (97<=n)&&decide (n<=122))||(decide (65<=n)&&decide (n<=90))||(decide (48<=n)&&decide (n<=57))||n==45||n==95||n==46
def dF(s:ByteArray):Bool:=(List.range s.size).all (fun i=>gI (ar s i))
set_option maxRecDepth 512
theorem lk(n:Int)(w:XP) :
  XO prog 212 #[Xx XG n] w fun e g=>e=XH (XC (gI n))/\g=w:=by
 by_cases b:(97<=n/\n<=122)∨(65<=n/\n<=90)∨(48<=n/\n<=57)
 ·have a:XN (gI n=XL):=by show gI n=XL;simp only[gI,Bool.or_eq_true,Bool.and_eq_true,decide_eq_true_eq];omega
  rcases b with b | b | b
  all_goals
   go_enter func212,ntmps212;go_wp2;go_ret;exact⟨aH a.out.symm,rfl⟩
 ·have a:XN (gI n=(n==45||n==95||n==46)):=by
   show gI n=_;have c:(decide (97<=n)&&decide (n<=122))=XM:=(by simp;omega);have d:(decide (65<=n)&&decide (n<=90))=XM:=(by simp;omega);have f:(decide (48<=n)&&decide (n<=57))=XM:=(by simp;omega);simp only[gI,c,d,f,Bool.false_or]
  go_enter func212,ntmps212;go_wp2
  all_goals go_ret
  all_goals (refine⟨aH ?_,rfl⟩;first | rfl | (rw[a.out];done) | (rw[a.out];simp[*];done))
theorem Ne(h:H<d)(a:k H=XM):(List.range d).all k=XM:=by
 rw[TF];exact⟨H,by simpa using h,by simp[a]⟩
theorem KI(h:∀i,i<d->k i=XL):(List.range d).all k=XL:=by
 rw[QR];intro i a;exact h i (by simpa using a)
theorem jB(q:b.size<=1073741824) :
  XO prog 200 #[Xy b] f fun e m=>e=XH (XC (dF b))/\m=f:=by
 go_enter func200,ntmps200;go_wp2
 go_loopg [3] b.size (fun g i wr=>∃k:Nat,k<=b.size/\g=b.size-k/\i=Xx XF k/\XN (∀i,i<k->gI (ar b i)=XL)/\wr=f)
 case atStart=>exact⟨0,by omega,by omega,rfl,fun i h=>by omega,rfl⟩
 case round =>
  obtain⟨k,p,o,rfl,a,rfl⟩:=hrel;by_cases c:k<b.size
  ·cases j:gI (b[k].toNat:Int)
   ·have d:XN (dF b=XM):=Ne k c (by rw[aY b k c];exact j);go_wp2_with fail;refine(lk _ _).mono ?_;rintro e n ⟨rfl,rfl⟩;go_wp2;go_ret;exact⟨aH d.out.symm,rfl⟩
   ·go_wp2_with fail;refine(lk _ _).mono ?_;rintro e n ⟨rfl,rfl⟩;go_wp2;go_roundg (b.size-(k+1))
    case measure=>omega
    case rel =>
     refine⟨k+1,by omega,rfl,by go_num,?_,rfl⟩;intro i l;by_cases e:i=k
     ·subst e;rw[aY b i c];exact j
     ·exact a.out i (by omega)
  ·have d:XN (dF b=XL):=KI (fun i l=>a.out i (by omega));go_wp2;go_ret;exact⟨aH d.out.symm,rfl⟩
theorem ib(h:aO f n S T x w l)(c:T.length=H)(a:w.Uv.length<=1073741824) :
  XO prog 206 #[XA (XK ⟨n,H,XJ⟩),Xy b] f fun e j=>e=XH (XC (aM w.Uv b))/\j=f:=by
 obtain⟨k,m,o,p,q,r,s,t,u,v,d,g,i⟩:=h.cells H c;go_enter func206,ntmps206;go_wp2_with fail;refine(dL (l 3) w.Uv b _ (by exact h.own 3) a).mono ?_;rintro e y ⟨rfl,rfl⟩;go_wp2;go_ret;exact⟨rfl,rfl⟩
theorem jm(h:aO f n S T x w l)(c:T.length=H)(a:w.Uo.length<=1073741824) :
  XO prog 207 #[XA (XK ⟨n,H,XJ⟩),Xy b] f fun e j=>e=XH (XC (aM w.Uo b))/\j=f:=by
 obtain⟨k,m,o,p,q,r,s,t,u,v,d,g,i⟩:=h.cells H c;go_enter func207,ntmps207;go_wp2_with fail;refine(dL (l 1) w.Uo b _ (by exact h.own 1) a).mono ?_;rintro e y ⟨rfl,rfl⟩;go_wp2;go_ret;exact⟨rfl,rfl⟩
theorem jC(h:aO f n S T x w l)(c:T.length=H)(a:w.Uy.length<=1073741824) :
  XO prog 208 #[XA (XK ⟨n,H,XJ⟩),Xy b] f fun e j=>e=XH (XC (aM w.Uy b))/\j=f:=by
 obtain⟨k,m,o,p,q,r,s,t,u,v,d,g,i⟩:=h.cells H c;go_enter func208,ntmps208;go_wp2_with fail;refine(dL (l 4) w.Uy b _ (by exact h.own 4) a).mono ?_;rintro e y ⟨rfl,rfl⟩;go_wp2;go_ret;exact⟨rfl,rfl⟩
def cm(d:Db)(x:ByteArray):Bool:=aM d.Uu x||aM d.Uo x||aM d.Up x
def di(d:Db)(x:ByteArray):Bool:=aM d.Uu x||aM d.Uo x||aM d.Uv x
theorem iH(h:aO f n S T x w l)(j:T.length=H)(a:eu w 1073741824) :
  XO prog 189 #[XA (XK ⟨n,H,XJ⟩),Xy b] f fun e p=>e=XH (XC (cm w b))/\p=f:=by
 obtain⟨q,r,s,t,u,v,y,z,A,B,k,m,o⟩:=h.cells H j;cases g:aM w.Uu b
 ·cases i:aM w.Uo b
  ·have c:XN (cm w b=aM w.Up b):=(by show cm w b=_;simp[cm,g,i]);go_enter func189,ntmps189;go_wp2_with fail;refine(dL (l 0) w.Uu b _ (by exact h.own 0) a.Uu).mono ?_;rintro e d ⟨rfl,rfl⟩;go_wp2_with fail;refine(dL (l 1) w.Uo b _ (by exact h.own 1) a.Uo).mono ?_;rintro e d ⟨rfl,rfl⟩;go_wp2_with fail;refine(dL (l 2) w.Up b _ (by exact h.own 2) a.Up).mono ?_;rintro e d ⟨rfl,rfl⟩;go_wp2;go_ret;exact⟨aH (by rw[c.out]),rfl⟩
  ·have c:XN (cm w b=XL):=(by show cm w b=_;simp[cm,g,i]);go_enter func189,ntmps189;go_wp2_with fail;refine(dL (l 0) w.Uu b _ (by exact h.own 0) a.Uu).mono ?_;rintro e d ⟨rfl,rfl⟩;go_wp2_with fail;refine(dL (l 1) w.Uo b _ (by exact h.own 1) a.Uo).mono ?_;rintro e d ⟨rfl,rfl⟩;go_wp2;go_ret;exact⟨aH (by rw[c.out]),rfl⟩
 ·have c:XN (cm w b=XL):=by show cm w b=_;simp[cm,g]
  go_enter func189,ntmps189;go_wp2_with fail;refine(dL (l 0) w.Uu b _ (by exact h.own 0) a.Uu).mono ?_;rintro e d ⟨rfl,rfl⟩;go_wp2;go_ret;exact⟨aH (by rw[c.out]),rfl⟩
theorem wO(h:aO f n S T x w l)(j:T.length=H)(a:eu w 1073741824) :
  XO prog 190 #[XA (XK ⟨n,H,XJ⟩),Xy b] f fun e p=>e=XH (XC (di w b))/\p=f:=by
 obtain⟨q,r,s,t,u,v,y,z,A,B,k,m,o⟩:=h.cells H j;cases g:aM w.Uu b
 ·cases i:aM w.Uo b
  ·have c:XN (di w b=aM w.Uv b):=(by show di w b=_;simp[di,g,i]);go_enter func190,ntmps190;go_wp2_with fail;refine(dL (l 0) w.Uu b _ (by exact h.own 0) a.Uu).mono ?_;rintro e d ⟨rfl,rfl⟩;go_wp2_with fail;refine(dL (l 1) w.Uo b _ (by exact h.own 1) a.Uo).mono ?_;rintro e d ⟨rfl,rfl⟩;go_wp2_with fail;refine(dL (l 3) w.Uv b _ (by exact h.own 3) a.Uv).mono ?_;rintro e d ⟨rfl,rfl⟩;go_wp2;go_ret;exact⟨aH (by rw[c.out]),rfl⟩
  ·have c:XN (di w b=XL):=(by show di w b=_;simp[di,g,i]);go_enter func190,ntmps190;go_wp2_with fail;refine(dL (l 0) w.Uu b _ (by exact h.own 0) a.Uu).mono ?_;rintro e d ⟨rfl,rfl⟩;go_wp2_with fail;refine(dL (l 1) w.Uo b _ (by exact h.own 1) a.Uo).mono ?_;rintro e d ⟨rfl,rfl⟩;go_wp2;go_ret;exact⟨aH (by rw[c.out]),rfl⟩
 ·have c:XN (di w b=XL):=by show di w b=_;simp[di,g]
  go_enter func190,ntmps190;go_wp2_with fail;refine(dL (l 0) w.Uu b _ (by exact h.own 0) a.Uu).mono ?_;rintro e d ⟨rfl,rfl⟩;go_wp2;go_ret;exact⟨aH (by rw[c.out]),rfl⟩
theorem iG(h:aO f n S T x w l)(a:T.length=H) :
  XO prog 156 #[XA (XK ⟨n,H,XJ⟩)] f fun e g=>e=XH (XC (decide (0<w.blocks.length)))/\g=f:=by
 obtain⟨i,j,k,m,o,p,q,r,s,t,b,c,d⟩:=h.cells H a;go_enter func156,ntmps156;go_wp2;go_ret;exact⟨rfl,rfl⟩
def de(d:Db):Bool:=d.kind != 0||decide (0<d.blocks.length)
theorem pm(h:aO f n S T x w l)(c:T.length=H) :
  XO prog 137 #[XA (XK ⟨n,H,XJ⟩)] f fun e j=>e=XH (XC (de w))/\j=f:=by
 obtain⟨k,m,o,p,q,r,s,t,u,v,d,g,i⟩:=h.cells H c;cases b:(w.kind != 0)
 ·have a:XN (de w=decide (0<w.blocks.length)):=by show de w=_;simp only[de,b,Bool.false_or]
  go_enter func137,ntmps137;go_wp2_with fail;refine(iG n S H T x w l _ h c).mono ?_;rintro e y ⟨rfl,rfl⟩;go_wp2;go_ret;exact⟨aH (by rw[a.out]),rfl⟩
 ·have a:XN (de w=XL):=by show de w=_;simp only[de,b,Bool.true_or]
  go_enter func137,ntmps137;go_wp2_with fail;go_ret;exact⟨aH (by rw[a.out]),rfl⟩
def dX(d:Db):Int:=if(d.kind==1)=XL∨(d.kind==2)=XL then 2 else 1
theorem qe(h:aO f n S T x w l)(d:T.length=H) :
  XO prog 186 #[XA (XK ⟨n,H,XJ⟩)] f fun e k=>e=XH (Xx XF (dX w))/\k=f:=by
 obtain⟨m,o,p,q,r,s,t,u,v,y,g,i,j⟩:=h.cells H d;cases b:(w.kind==1)
 ·cases c:(w.kind==2)
  all_goals
   have a:XN (dX w=if(w.kind==1)=XL∨(w.kind==2)=XL then 2 else 1):=rfl;go_enter func186,ntmps186;go_wp2;go_ret;exact⟨ay (by rw[a.out,b,c];simp),rfl⟩
 ·have a:XN (dX w=2):=by show dX w=_;simp only[dX,b];simp
  go_enter func186,ntmps186;go_wp2;go_ret;exact⟨ay (by rw[a.out]),rfl⟩
theorem EQ(b:Hd)(l:List ByteArray)(c:Nat)(w:XP)(q:aE w b (au l))(t:c<=1073741824) :
  XO prog 199 #[Xz b.ao l.length b.cap,Xx XF c] w fun e u=>e=XH (Xz b.ao (if c<=l.length then c else l.length) b.cap)/\u=w:=by
 obtain⟨v,f⟩:=b;by_cases a:c<=l.length
 ·rcases q.UC with ⟨i,p,_⟩ | ⟨g,r,k,m,n,o,_⟩
  ·have d:l.length=0:=p;have j:c=0:=(by omega);subst j
   injection i with i m
   subst i m;simp only[if_pos a];rw[d];clear q p a d t;go_enter func199,ntmps199;go_wp2;go_ret;exact⟨rfl,rfl⟩
  ·simp only at k n o;have s:l.length<=f:=n;unfold maxLen at o;subst k;simp only[if_pos a];go_enter func199,ntmps199;go_wp2;go_ret;exact⟨rfl,rfl⟩
 ·simp only[if_neg a];go_enter func199,ntmps199;go_wp2;go_ret;exact⟨rfl,rfl⟩
theorem aE.cut{w:XP}{h:Hd}{l:List ByteArray}(o:aE w h (au l))(c:Nat)(t:c<=l.length):aE w h (au (l.take c)):=by
 have d:(l.take c).length=c:=by simp;omega
 rcases o.UC with ⟨m,q,_⟩ | ⟨g,b,f,n,i,j,k,p⟩
 ·have r:l.length=0:=q;have:c=0:=by omega
  subst this;subst m;exact⟨by simp[au,strs],P0 ⟨by simp[au],by simp[au]⟩⟩
 ·obtain⟨s,a⟩:=h;simp only at f i j k;subst f;refine⟨by simp[au,strs],P7 ⟨g,a,b,rfl,Qx _,n,?_,j,k,?_⟩⟩
  ·have:l.length<=a:=i;simp only[au];omega
  ·have e:b.toList.take (l.length*1)=strs l:=p;simp only[au,d];have:strs (l.take c)=(strs l).take c:=by simp[strs,List.map_take]
   rw[this,<-e,Sp];congr 1;omega
end Go.Proofs.YtnbalopedcgpcaaGreat
