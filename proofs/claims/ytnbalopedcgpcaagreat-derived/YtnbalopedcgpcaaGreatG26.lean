import Derived.Deep.CutRange
import Derived.Deep.CutBlock
import Derived.Test.YtnbalopedcgpcaaGreatG25
namespace Go.Proofs.YtnbalopedcgpcaaGreat
open Go.RowKit Tryz
open Value renaming int->Xx,string->Xy,slice->Xz,pointer->XA,bool->XC,tuple->XD
open Obj renaming cells->XE
open IntKind renaming i64->XF,u8->XG
open Ending renaming returned->XH
open World renaming cell?->XI
open Option renaming none->XJ,some->XK
open Bool renaming true->XL,false->XM
open Go.RowKit renaming Hid->XN
open Go renaming Calls->XO,World->XP,Value->XQ
set_option maxHeartbeats 0
variable{S:Nat}{D:List ByteArray}{d:Db}{f:St}{i o:ByteArray}{x:List St}(v:ByteArray)(a T:Nat)(H:ByteArray)(w:List ByteArray)(l:XP)(b:Nat)(n:ByteArray)(k:Pr)
structure Kw(f:Fm)(n:Nat):Prop where
 hy:f.hyps.length<=n
 wh:f.which.length<=n
 va:f.vars.length<=n
 ty:f.types.length<=n
 ess:f.ess.length<=n
 le:f.left.length<=n
 ri:f.right.length<=n
theorem Kw.step{f:Fm}(h:Kw f S)(a:List ByteArray):Kw (bP f a) (S+1):=by
 obtain⟨b,c,d,e,g,i,j⟩:=h;unfold bP;split
 ·constructor <;> simp <;> omega
 ·split
  ·constructor <;> simp <;> omega
  ·split
   ·constructor <;> simp <;> omega
   ·constructor <;> simp <;> omega
theorem Dz(k:Nat)(h:k<=w.length):Kw (fK w k) k:=by
 induction k with
 | zero=>constructor <;> simp[fK,xS]
 | succ k a=>rw[qO w k (by omega)];exact(a (by omega)).step _
theorem IR{w:XP}(h:ej w S D D.length)(k:Nat)(a:k<D.length):XI w ⟨S,k,XJ⟩=XK (Xy D[k]):=by
 unfold ej at h;rw[FK]at h;rw[ab h];simp[strs,a]
theorem J7(h:3<=w.length):∃a b c r,w=a :: b :: c :: r:=by
 match w,h with
 | a :: b :: c :: r,_=>exact⟨a,b,c,r,rfl⟩
theorem qx:(aV n).length<=n.size+1:=by
 unfold aV;have:=(Ee n n.size).2;simp;omega
set_option maxRecDepth 100000
theorem uU(c0:XI l ⟨a,0,XJ⟩=XK (XA (XK ⟨T,0,XJ⟩)))(hb:a<l.heap.size)(hL:0<w.length)(c1:w.length<=200000000)(VF:XN (∀w',aa [] l w'->XO prog 58 #[XA (XK ⟨T,0,XJ⟩),Xy H] w' fun e a9=>∃g,e=XH (XD #[Xz (XK ⟨g,0,XJ⟩) w.length w.length,Xx XF 0])/\ej a9 g w w.length/\w'.heap.size<=g/\aa [] w' a9))(bw:XN (∀k (h:k<w.length),pT H (decide (k+1=w.length)) w[k]))(bm:XN (0<(cM w).goal.length)) :
  XO prog 21 #[XA (XK ⟨a,0,XJ⟩),Xy H] l fun e w'=>∃F g d s o,e=XH (XD #[XA (XK ⟨F,0,XJ⟩),XC XL])/\fQ w' F l.heap.size H (Xz (XK ⟨g,0,XJ⟩) w.length w.length) (cM w) d s o/\ej w' g w w.length/\(l.heap.size<=g/\g≠F/\¬cD o g)/\aa [] l w':=by
 obtain⟨i0,hi,d4,d5,ea⟩:=Qq ey;obtain⟨i1,c9,d1,d2,d3⟩:=Qq mX;obtain⟨i2,dc,ds,dT,d0⟩:=Qq wM;obtain⟨W,hW⟩:∃W,W=l.alloc (XE #[Xy H,Xz XJ 0 0,Xz XJ 0 0,Xz XJ 0 0,Xz XJ 0 0,Xz XJ 0 0,Xz XJ 0 0,Xz XJ 0 0,Xz XJ 0 0,Xz XJ 0 0] 72):=⟨_,rfl⟩
 have kW:aa [] l W:=by rw[hW];exact(aa.refl [] _).alloc _
 have BW:W.heap[l.heap.size]?=XK (XE #[Xy H,Xz XJ 0 0,Xz XJ 0 0,Xz XJ 0 0,Xz XJ 0 0,Xz XJ 0 0,Xz XJ 0 0,Xz XJ 0 0,Xz XJ 0 0,Xz XJ 0 0] 72):=by rw[hW];exact PM _ _
 have HW:XN _:=hW.symm;clear hW;have cW:XI W ⟨a,0,XJ⟩=XK (XA (XK ⟨T,0,XJ⟩)):=by rw[Qy (kW.block a hb (by simp))];exact c0
 have c4:a<W.heap.size:=PY hb kW.size;have HF:XN _:=VF.out W kW;clear c0;go_enter func21,ntmps21;go_upto_region 2 with fail
 rw[HW.out];go_wp2_with fail;refine PU HF.out ?_;rintro e w2 ⟨g,rfl,a4,c6,k2⟩;have B2:=k2.get BW (by simp);have y0:XI w2 ⟨l.heap.size,1,XJ⟩=XK (Xz XJ 0 0):=by rw[ab B2];rfl
 have yf:=aw B2;have bg:=ae B2;have c2:((w.length:Int)==0)=XM:=by rw[Qi];omega
 have c3:=ae BW;obtain⟨F,ad⟩:∃F,XN (l.heap.size=F):=⟨_,rfl⟩
 have A0:XN (fQ (w2.setCell ⟨l.heap.size,1,XJ⟩ (Xz (XK ⟨g,0,XJ⟩) w.length w.length)) l.heap.size l.heap.size H (Xz (XK ⟨g,0,XJ⟩) w.length w.length) xS [] ⟨XJ,0⟩ fh):=by
  refine⟨⟨?_,?_,?_,?_⟩,⟨PQ _,?_⟩,?_,rfl,P0 rfl,?_⟩
  ·rw[af B2];rfl
  ·intro i;rcases i with _|_|_|_|_|_|_|i <;> exact Qj _ _ _ _
  ·intro i j _;exact P0 rfl
  ·intro i e;simp[fh,Hd.blk]at e
  ·rintro k ⟨i,e⟩;simp[fh,Hd.blk]at e
  ·intro e he;simp at he
  ·intro T hx;simp[Hd.blk]at hx
 have A1:XN (ej (w2.setCell ⟨l.heap.size,1,XJ⟩ (Xz (XK ⟨g,0,XJ⟩) w.length w.length)) g w w.length):=(P9 _ _ _ _ (by show g≠l.heap.size;omega)).trans a4;have A2:XN (aa [] l (w2.setCell ⟨l.heap.size,1,XJ⟩ (Xz (XK ⟨g,0,XJ⟩) w.length w.length))):=(kW.trans k2).setCell (P7 (PQ _)) _;have A3:XN (l.heap.size<=g/\g≠l.heap.size/\¬cD fh g):=⟨by omega,by omega,by rintro ⟨i,e⟩;simp[fh,Hd.blk]at e⟩;rw[ad.out]at A0 A1 A2 A3 y0 yf bg;have bd:XN (fK w 0=xS):=rfl;rw[show(⟨l.heap.size,0,XJ⟩:Addr)=⟨F,0,XJ⟩ by rw[ad.out]];clear BW B2 a4;go_wp2
 go_loopg [9] w.length (fun gk i wr=>∃(k:Nat) (d:List Ex) (s:Hd) (o:Nat->Hd),k<=w.length/\gk=w.length-k/\i=Xx XF k/\fQ wr F l.heap.size H (Xz (XK ⟨g,0,XJ⟩) w.length w.length) (fK w k) d s o/\ej wr g w w.length/\(l.heap.size<=g/\g≠F/\¬cD o g)/\aa [] l wr)
 case atStart=>exact⟨0,[],⟨XJ,0⟩,fh,by omega,by omega,rfl,by rw[bd.out,ad.out];exact A0.out,A1.out,by rw[ad.out];exact A3.out,A2.out⟩
 case round =>
  obtain⟨k,d,s,o,hk,c8,rfl,M,ac,a3,hK⟩:=hrel;have bq:=Dz w k hk;clear A0 A1 A2 A3 y0 yf;by_cases az:k<w.length
  ·have cl:=IR ac k az;have Q:XN _:=bw.out k az;have ap:XN _:=qO w k az;have bl:=ae ac;have b0:=Q.out.size;generalize w[k]=ln at *;generalize fK w k=f at *;obtain⟨v,B,p,A,b,x,z,E⟩:=f;obtain⟨l1,l2,l3,l4,l5,l6,l7⟩:=bq;simp only at l1 l2 l3 l4 l5 l6 l7;have dd:(k:Int)<w.length:=(by omega);have ec:d.length<=k:=(by have:=congrArg List.length M.ess;simp at this;omega);have a1:XN (d.length=b.length):=(by show _=_;have:=congrArg List.length M.ess;simpa using this);go_wp2_with fail;refine(vN ln wr b0).mono ?_;rintro e w3 ⟨ht,rfl,ah,a5,k3⟩;obtain⟨c,m,n,r,b3⟩:=J7 _ Q.out.len;have a7:=qx ln;have Y:XN _:=Q.out.way;rw[b3]at ah a7 ap Y ⊢;rcases ah.UC with ⟨_,h0,_⟩ | ⟨u,b5,et,bf,a2,aq,-⟩
   ·have:(c :: m :: n :: r).length=0:=h0;simp at this
   obtain⟨ao,t⟩:=ht;simp only at et a2 aq;subst et;have bo:wr.heap.size<=u:=a5 u rfl;have bk:=M.bag.lt;have S0:dW l w3 F g H w ⟨v,B,p,A,b,x,z,E⟩ d s o u t (c :: m :: n :: r):=⟨M.Ur k3,ac.kept k3 (by simp),a3,ah,⟨by omega,fun bp=>by have:=M.bag.inlt bp;omega⟩,hK.trans k3,by have:=hK.size;omega⟩;obtain⟨K,L⟩:∃K,XN ((c :: m :: n :: r).length=K):=⟨_,rfl⟩
   have bv:3<=K:=(by rw[<-L.out];simp);have b1:K<=t:=(by rw[<-L.out];exact a2);have b2:t<=9223372036854775807:=(by unfold maxLen at aq;exact aq);have bs:K<=1073741825:=(by rw[<-L.out];omega);rw[L.out];have q0:0<K:=by omega
   have q1:(1:Int)<(K:Int):=(by omega);have q2:(2:Int)<(K:Int):=(by omega);have q3:(2:Int)<=(K:Int):=(by omega);have qw:IntKind.i64.wrap (-1-(d.length:Int))=-1-(d.length:Int):=(by rw[Re];omega);have U:XN (fK w (k+1)=bP ⟨v,B,p,A,b,x,z,E⟩ (c :: m :: n :: r)):=ap.out;obtain⟨wc,be⟩:∃wc,XN (w3=wc):=⟨_,rfl⟩
   rw[be.out]at S0 ⊢;have a0:XN _:=S0;clear S0 M ac hK ah bf a5 k3 bl Q ap cl a7 bo;have S:=a0;clear a0;have cx:=S.out.word 0 c rfl;have cz:=S.out.word 1 m rfl;have b7:=S.out.lts;cases hd:(c.toList == [36,100])
   ·have ag:XN ((((m.toList == [36,102])=XL/\K=4)∨((m.toList == [36,102])=XM/\((m.toList == [36,101])=XL∨((m.toList == [36,101])=XM/\((m.toList == [36,97])=XL∨(m.toList == [36,112])=XL)/\(c.toList==H.toList)=XL/\k+1=w.length))))):=by
     rcases Y.out with h | ⟨_,h⟩
     ·have:(c.toList == [36,100])=XL:=h;rw[hd]at this;cases this
     ·rw[L.out]at h;rcases h with h | ⟨h1,h2 | ⟨h2,h3,h4,h5⟩⟩
      ·exact P0 h
      ·exact P7 ⟨h1,P0 h2⟩
      ·exact P7 ⟨h1,P7 ⟨h2,h3,h4,by simpa using h5⟩⟩
    clear Y;cases hf:(m.toList == [36,102])
    ·cases he:(m.toList == [36,101])
     ·have HG:XN (((m.toList == [36,97])=XL∨(m.toList == [36,112])=XL)/\(c.toList==H.toList)=XL/\k+1=w.length):=by
       rcases ag.out with h | ⟨_,h | ⟨_,h⟩⟩
       ·rw[hf]at h;cases h.1
       ·rw[he]at h;cases h
       ·exact h
      have I:XN (fK w (k+1)=⟨v,B,p,A,b,x,z,n :: r⟩):=by
       show _=_;rw[U.out];unfold bP;rw[PV (by show ¬(c.toList == [36,100])=XL;rw[hd];simp),PV (by rintro ⟨h,-⟩;have h':(m.toList == [36,102])=XL:=h;rw[hf]at h';cases h'),PV (by show ¬(m.toList == [36,101])=XL;rw[he];simp)];rfl
      have av:(k:Int)=(w.length:Int)-1:=(by have:=HG.out.2.2;omega);have bc:((k:Int)==(w.length:Int)-1)=XL:=(by simp[av]);have b6:=HG.out.2.1;have cw:=S.out.cell 9 _ rfl;have fF:=aw S.out.fm.bag.blk;have b9:t≠2:=(by omega);have ca:(t:Int)≠2:=(by omega);have HR:=S.out.rest;have ai:XN _:=(S.out.fm.goal (n :: r) ⟨XK ⟨u,2,XJ⟩,t-2⟩ HR.view (fun T hx=>⟨(HR.far T hx).1,(HR.far T hx).2.1,(HR.far T hx).2.2,by have:=S.out.tn;simp[Hd.blk]at hx;omega⟩));have C:XN _:=S.out.turn ai.out.1 ai.out.2;have a6:(n :: r).length=K-2:=(by rw[<-L.out];simp);rw[a6]at C;clear HR ai a6;rcases HG.out.1 with ha | hp
      ·go_wp2_with fail;go_roundg (w.length-(k+1))
       case measure=>omega
       case rel=>exact⟨k+1,d,_,o,by omega,rfl,by go_num,by rw[I.out];exact C.out.fm,C.out.lns,C.out.gf,C.out.kept⟩
      ·cases ha:(m.toList == [36,97])
       ·go_wp2_with fail;go_roundg (w.length-(k+1))
        case measure=>omega
        case rel=>exact⟨k+1,d,_,o,by omega,rfl,by go_num,by rw[I.out];exact C.out.fm,C.out.lns,C.out.gf,C.out.kept⟩
       ·go_wp2_with fail;go_roundg (w.length-(k+1))
        case measure=>omega
        case rel=>exact⟨k+1,d,_,o,by omega,rfl,by go_num,by rw[I.out];exact C.out.fm,C.out.lns,C.out.gf,C.out.kept⟩
     ·have I:XN (fK w (k+1)=⟨v++[c],B++[-1-(d.length:Int)],p,A,b++[n :: r],x,z,E⟩):=by
       show _=_;rw[U.out];unfold bP;rw[PV (by show ¬(c.toList == [36,100])=XL;rw[hd];simp),PV (by rintro ⟨h,-⟩;have h':(m.toList == [36,102])=XL:=h;rw[hf]at h';cases h'),PZ (by exact he),a1.out];rfl
      clear U ag;have U:=I;clear I;go_upto_region 22 with fail
      go_cut [] from 146 to 157 (fun N=>∃O,dW l N F g H w ⟨v++[c],B,p,A,b,x,z,E⟩ d s O u t (c :: m :: n :: r))
      case first =>
       rename_i J V X G;exact kU (OK l wc F g H w (v) (B) (p) (A) (b) (x) (z) (E) d s o u t K (c :: m :: n :: r) c rfl (by omega) (by omega) S _ _ _ _ _ _ _ _ _ _ _ _ _ _ _ _ _ _ _ _ _ _ _ _ _ _ _ _ _ _ _ _ _ _ _ _ _ _ _ _ _ _ _ _ _ _ _ _ _ _ _ _ _ _ _ _ _ _ _ _ _ _ _ _ _ _ _ _ _ _ _ _ _ _ _ _ _ _ _ _ _ _ _ _ _ _ _ _ _ _ _ _ _ _ _ _ _ _ _ _ _ _ _ _ _ _ _ _ _ _ _ _ _ _ _ _ _ _ _ _ _ _ _ _ _ _ _ _ _ _ _ _ _ _ _ _ _ _ _ _ _ _ _ _ _ _ _ _ _ _ _ _ _ _ _ _ _ _ _ _ _ _ _ _ _ _ _ _ _ _ _ _ _ _ _ _ _ _ _ _ _ _ _ _ _ _ _ _ _ _ _ _ _ _ _ _ _ _ _ _ _ _ _ _ _ _ _ _ _ _ _ _ _ _ _ _ _ _ _ _ J V X G)
      case rest =>
       clear S;obtain⟨P,D⟩:=hcut;obtain⟨o,S,-⟩:∃o,XN (dW l wc F g H w ⟨v++[c],B,p,A,b,x,z,E⟩ d s o u t (c :: m :: n :: r))/\True:=⟨P,D,trivial⟩
       clear D;go_upto_region 23 with fail
       go_cut [] from 158 to 172 (fun N=>∃O,dW l N F g H w ⟨v++[c],B++[-1-(d.length:Int)],p,A,b,x,z,E⟩ d s O u t (c :: m :: n :: r))
       case first =>
        rename_i J V X G;exact kU (OL l wc F g H w (v++[c]) (B) (p) (A) (b) (x) (z) (E) d s o u t K (c :: m :: n :: r) (by omega) (by omega) (by omega) S _ _ _ _ _ _ _ _ _ _ _ _ _ _ _ _ _ _ _ _ _ _ _ _ _ _ _ _ _ _ _ _ _ _ _ _ _ _ _ _ _ _ _ _ _ _ _ _ _ _ _ _ _ _ _ _ _ _ _ _ _ _ _ _ _ _ _ _ _ _ _ _ _ _ _ _ _ _ _ _ _ _ _ _ _ _ _ _ _ _ _ _ _ _ _ _ _ _ _ _ _ _ _ _ _ _ _ _ _ _ _ _ _ _ _ _ _ _ _ _ _ _ _ _ _ _ _ _ _ _ _ _ _ _ _ _ _ _ _ _ _ _ _ _ _ _ _ _ _ _ _ _ _ _ _ _ _ _ _ _ _ _ _ _ _ _ _ _ _ _ _ _ _ _ _ _ _ _ _ _ _ _ _ _ _ _ _ _ _ _ _ _ _ _ _ _ _ _ _ _ _ _ _ _ _ _ _ _ _ _ _ _ _ _ _ _ _ _ _ _ J V X G)
       case rest =>
        clear S;obtain⟨P,D⟩:=hcut;obtain⟨o,S,-⟩:∃o,XN (dW l wc F g H w ⟨v++[c],B++[-1-(d.length:Int)],p,A,b,x,z,E⟩ d s o u t (c :: m :: n :: r))/\True:=⟨P,D,trivial⟩
        clear D;go_upto_region 24 with fail
        go_cut [11] from 173 to 180 (fun b4 N=>∃(g5 Z:Nat) (v0:XQ),b4=Xz (XK ⟨g5,0,XJ⟩) (d.length+1) Z/\XI N ⟨F,6,XJ⟩=XK v0/\N.frozen? ⟨F,6,XJ⟩=XM/\F<N.heap.size/\∃O,XN (dW l (N.setCell ⟨F,6,XJ⟩ (Xz (XK ⟨g5,0,XJ⟩) (d.length+1) Z)) F g H w ⟨v++[c],B++[-1-(d.length:Int)],p,A,b++[n :: r],x,z,E⟩ (d++[rh u t (n :: r)]) s O u t (c :: m :: n :: r)))
        case first =>
         rename_i J V X G;exact kU (OM l wc F g H w (v++[c]) (B++[-1-(d.length:Int)]) (p) (A) (b) (x) (z) (E) d s o u t K (c :: m :: n :: r) (n :: r) rfl (by rw[<-L.out];simp) bv b1 bs b2 (by omega) S _ _ _ _ _ _ _ _ _ _ _ _ _ _ _ _ _ _ _ _ _ _ _ _ _ _ _ _ _ _ _ _ _ _ _ _ _ _ _ _ _ _ _ _ _ _ _ _ _ _ _ _ _ _ _ _ _ _ _ _ _ _ _ _ _ _ _ _ _ _ _ _ _ _ _ _ _ _ _ _ _ _ _ _ _ _ _ _ _ _ _ _ _ _ _ _ _ _ _ _ _ _ _ _ _ _ _ _ _ _ _ _ _ _ _ _ _ _ _ _ _ _ _ _ _ _ _ _ _ _ _ _ _ _ _ _ _ _ _ _ _ _ _ _ _ _ _ _ _ _ _ _ _ _ _ _ _ _ _ _ _ _ _ _ _ _ _ _ _ _ _ _ _ _ _ _ _ _ _ _ _ _ _ _ _ _ _ _ _ _ _ _ _ _ _ _ _ _ _ _ _ _ _ _ _ _ _ _ _ _ _ _ _ _ _ _ _ _ _ _ J V X G)
        case rest =>
         clear S;obtain⟨g5,Z,v0,rfl,k5,f5,eb,O,HS⟩:=hcut;go_wp2_with fail;go_roundg (w.length-(k+1))
         case measure=>omega
         case rel=>exact⟨k+1,d++[rh u t (n :: r)],s,O,by omega,rfl,by go_num,by rw[U.out];exact HS.out.fm,HS.out.lns,HS.out.gf,HS.out.kept⟩
    ·have a8:K=4:=by
      rcases ag.out with h | ⟨h,_⟩
      ·exact h.2
      ·rw[hf]at h;cases h
     obtain⟨R,bx⟩:∃R,r=[R]:=by
      have:=L.out;simp at this
      match r,this with
      | [y],_=>exact⟨y,rfl⟩
      | [],h=>simp at h;omega
      | _ :: _ :: _,h=>simp at h;omega
     subst bx;have I:XN (fK w (k+1)=⟨v++[c],B++[(p.length:Int)],p++[R],A++[n],b,x,z,E⟩):=by
      show _=_;rw[U.out];unfold bP;rw[PV (by show ¬(c.toList == [36,100])=XL;rw[hd];simp),PZ ⟨hf,rfl⟩];rfl
     have b8:((K:Int)==4)=XL:=(by rw[a8];rfl);have dk:3<K:=(by omega);clear a8;clear U ag;have U:=I;clear I;go_upto_region 17 with fail
     go_cut [] from 91 to 102 (fun N=>∃O,dW l N F g H w ⟨v++[c],B,p,A,b,x,z,E⟩ d s O u t [c,m,n,R])
     case first =>
      rename_i J V X G;exact kU (OG l wc F g H w (v) (B) (p) (A) (b) (x) (z) (E) d s o u t K [c,m,n,R] c rfl (by omega) (by omega) S _ _ _ _ _ _ _ _ _ _ _ _ _ _ _ _ _ _ _ _ _ _ _ _ _ _ _ _ _ _ _ _ _ _ _ _ _ _ _ _ _ _ _ _ _ _ _ _ _ _ _ _ _ _ _ _ _ _ _ _ _ _ _ _ _ _ _ _ _ _ _ _ _ _ _ _ _ _ _ _ _ _ _ _ _ _ _ _ _ _ _ _ _ _ _ _ _ _ _ _ _ _ _ _ _ _ _ _ _ _ _ _ _ _ _ _ _ _ _ _ _ _ _ _ _ _ _ _ _ _ _ _ _ _ _ _ _ _ _ _ _ _ _ _ _ _ _ _ _ _ _ _ _ _ _ _ _ _ _ _ _ _ _ _ _ _ _ _ _ _ _ _ _ _ _ _ _ _ _ _ _ _ _ _ _ _ _ _ _ _ _ _ _ _ _ _ _ _ _ _ _ _ _ _ _ _ _ _ _ _ _ _ _ _ _ _ _ _ _ _ J V X G)
     case rest =>
      clear S;obtain⟨P,D⟩:=hcut;obtain⟨o,S,-⟩:∃o,XN (dW l wc F g H w ⟨v++[c],B,p,A,b,x,z,E⟩ d s o u t [c,m,n,R])/\True:=⟨P,D,trivial⟩
      clear D;go_upto_region 18 with fail
      go_cut [] from 103 to 116 (fun N=>∃O,dW l N F g H w ⟨v++[c],B++[(p.length:Int)],p,A,b,x,z,E⟩ d s O u t [c,m,n,R])
      case first =>
       rename_i J V X G;exact kU (OH l wc F g H w (v++[c]) (B) (p) (A) (b) (x) (z) (E) d s o u t K [c,m,n,R] (by omega) (by omega) (by omega) S _ _ _ _ _ _ _ _ _ _ _ _ _ _ _ _ _ _ _ _ _ _ _ _ _ _ _ _ _ _ _ _ _ _ _ _ _ _ _ _ _ _ _ _ _ _ _ _ _ _ _ _ _ _ _ _ _ _ _ _ _ _ _ _ _ _ _ _ _ _ _ _ _ _ _ _ _ _ _ _ _ _ _ _ _ _ _ _ _ _ _ _ _ _ _ _ _ _ _ _ _ _ _ _ _ _ _ _ _ _ _ _ _ _ _ _ _ _ _ _ _ _ _ _ _ _ _ _ _ _ _ _ _ _ _ _ _ _ _ _ _ _ _ _ _ _ _ _ _ _ _ _ _ _ _ _ _ _ _ _ _ _ _ _ _ _ _ _ _ _ _ _ _ _ _ _ _ _ _ _ _ _ _ _ _ _ _ _ _ _ _ _ _ _ _ _ _ _ _ _ _ _ _ _ _ _ _ _ _ _ _ _ _ _ _ _ _ _ _ _ J V X G)
      case rest =>
       clear S;obtain⟨P,D⟩:=hcut;obtain⟨o,S,-⟩:∃o,XN (dW l wc F g H w ⟨v++[c],B++[(p.length:Int)],p,A,b,x,z,E⟩ d s o u t [c,m,n,R])/\True:=⟨P,D,trivial⟩
       clear D;go_upto_region 19 with fail
       go_cut [] from 117 to 128 (fun N=>∃O,dW l N F g H w ⟨v++[c],B++[(p.length:Int)],p,A++[n],b,x,z,E⟩ d s O u t [c,m,n,R])
       case first =>
        rename_i J V X G;exact kU (OI l wc F g H w (v++[c]) (B++[(p.length:Int)]) (p) (A) (b) (x) (z) (E) d s o u t K [c,m,n,R] n rfl (by omega) (by omega) S _ _ _ _ _ _ _ _ _ _ _ _ _ _ _ _ _ _ _ _ _ _ _ _ _ _ _ _ _ _ _ _ _ _ _ _ _ _ _ _ _ _ _ _ _ _ _ _ _ _ _ _ _ _ _ _ _ _ _ _ _ _ _ _ _ _ _ _ _ _ _ _ _ _ _ _ _ _ _ _ _ _ _ _ _ _ _ _ _ _ _ _ _ _ _ _ _ _ _ _ _ _ _ _ _ _ _ _ _ _ _ _ _ _ _ _ _ _ _ _ _ _ _ _ _ _ _ _ _ _ _ _ _ _ _ _ _ _ _ _ _ _ _ _ _ _ _ _ _ _ _ _ _ _ _ _ _ _ _ _ _ _ _ _ _ _ _ _ _ _ _ _ _ _ _ _ _ _ _ _ _ _ _ _ _ _ _ _ _ _ _ _ _ _ _ _ _ _ _ _ _ _ _ _ _ _ _ _ _ _ _ _ _ _ _ _ _ _ _ _ J V X G)
       case rest =>
        clear S;obtain⟨P,D⟩:=hcut;obtain⟨o,S,-⟩:∃o,XN (dW l wc F g H w ⟨v++[c],B++[(p.length:Int)],p,A++[n],b,x,z,E⟩ d s o u t [c,m,n,R])/\True:=⟨P,D,trivial⟩
        clear D;(go_upto_region 20 with fail);refine vY (OJ l wc F g H w (v++[c]) (B++[(p.length:Int)]) (p) (A++[n]) (b) (x) (z) (E) d s o u t K [c,m,n,R] R rfl (by omega) (by omega) S _ _ _ _ _ _ _ _ _ _ _ _ _ _ _ _ _ _ _ _ _ _ _ _ _ _ _ _ _ _ _ _ _ _ _ _ _ _ _ _ _ _ _ _ _ _ _ _ _ _ _ _ _ _ _ _ _ _ _ _ _ _ _ _ _ _ _ _ _ _ _ _ _ _ _ _ _ _ _ _ _ _ _ _ _ _ _ _ _ _ _ _ _ _ _ _ _ _ _ _ _ _ _ _ _ _ _ _ _ _ _ _ _ _ _ _ _ _ _ _ _ _ _ _ _ _ _ _ _ _ _ _ _ _ _ _ _ _ _ _ _ _ _ _ _ _ _ _ _ _ _ _ _ _ _ _ _ _ _ _ _ _ _ _ _ _ _ _ _ _ _ _ _ _ _ _ _ _ _ _ _ _ _ _ _ _ _ _ _ _ _ _ _ _ _ _ _ _ _ _ _ _ _ _ _ _ _ _ _ _ _ _ _ _ _ _ _ _ _ _ _ _ (fun _ _ q=>q) (fun _ _ q=>q)) ?_;rintro a' w' ⟨cb,cd,cf,cg,ch,cj,cn,co,cs,ct,cu,cv,⟨P,D⟩,rfl⟩;go_wp2_with fail;go_roundg (w.length-(k+1))
        case measure=>omega
        case rel=>exact⟨k+1,d,s,P,by omega,rfl,by go_num,by rw[U.out];exact D.fm,D.lns,D.gf,D.kept⟩
   ·have I:XN (fK w (k+1)=⟨v,B,p,A,b,x++[m],z++[n],E⟩):=by
     show _=_;rw[U.out];unfold bP;rw[PZ (by exact hd)];rfl
    clear U;have U:=I;clear I;go_upto_region 14 with fail
    go_cut [] from 57 to 68 (fun N=>∃O,dW l N F g H w ⟨v,B,p,A,b,x++[m],z,E⟩ d s O u t (c :: m :: n :: r))
    case first =>
     rename_i J V X G;exact kU (OE l wc F g H w (v) (B) (p) (A) (b) (x) (z) (E) d s o u t K (c :: m :: n :: r) m rfl (by omega) (by omega) S _ _ _ _ _ _ _ _ _ _ _ _ _ _ _ _ _ _ _ _ _ _ _ _ _ _ _ _ _ _ _ _ _ _ _ _ _ _ _ _ _ _ _ _ _ _ _ _ _ _ _ _ _ _ _ _ _ _ _ _ _ _ _ _ _ _ _ _ _ _ _ _ _ _ _ _ _ _ _ _ _ _ _ _ _ _ _ _ _ _ _ _ _ _ _ _ _ _ _ _ _ _ _ _ _ _ _ _ _ _ _ _ _ _ _ _ _ _ _ _ _ _ _ _ _ _ _ _ _ _ _ _ _ _ _ _ _ _ _ _ _ _ _ _ _ _ _ _ _ _ _ _ _ _ _ _ _ _ _ _ _ _ _ _ _ _ _ _ _ _ _ _ _ _ _ _ _ _ _ _ _ _ _ _ _ _ _ _ _ _ _ _ _ _ _ _ _ _ _ _ _ _ _ _ _ _ _ _ _ _ _ _ _ _ _ _ _ _ _ _ J V X G)
    case rest =>
     clear S;obtain⟨P,D⟩:=hcut;obtain⟨o,S,-⟩:∃o,XN (dW l wc F g H w ⟨v,B,p,A,b,x++[m],z,E⟩ d s o u t (c :: m :: n :: r))/\True:=⟨P,D,trivial⟩
     clear D;(go_upto_region 15 with fail);refine vY (OF l wc F g H w (v) (B) (p) (A) (b) (x++[m]) (z) (E) d s o u t K (c :: m :: n :: r) n rfl (by omega) (by omega) S _ _ _ _ _ _ _ _ _ _ _ _ _ _ _ _ _ _ _ _ _ _ _ _ _ _ _ _ _ _ _ _ _ _ _ _ _ _ _ _ _ _ _ _ _ _ _ _ _ _ _ _ _ _ _ _ _ _ _ _ _ _ _ _ _ _ _ _ _ _ _ _ _ _ _ _ _ _ _ _ _ _ _ _ _ _ _ _ _ _ _ _ _ _ _ _ _ _ _ _ _ _ _ _ _ _ _ _ _ _ _ _ _ _ _ _ _ _ _ _ _ _ _ _ _ _ _ _ _ _ _ _ _ _ _ _ _ _ _ _ _ _ _ _ _ _ _ _ _ _ _ _ _ _ _ _ _ _ _ _ _ _ _ _ _ _ _ _ _ _ _ _ _ _ _ _ _ _ _ _ _ _ _ _ _ _ _ _ _ _ _ _ _ _ _ _ _ _ _ _ _ _ _ _ _ _ _ _ _ _ _ _ _ _ _ _ _ _ _ _ _ _ (fun _ _ q=>q) (fun _ _ q=>q)) ?_;rintro a' w' ⟨ee,ef,eg,eh,ei,ek,el,em,en,ep,eq,er,⟨P,D⟩,rfl⟩;go_wp2_with fail;go_roundg (w.length-(k+1))
     case measure=>omega
     case rel=>exact⟨k+1,d,s,P,by omega,rfl,by go_num,by rw[U.out];exact D.fm,D.lns,D.gf,D.kept⟩
  ·have e:k=w.length:=(by omega);subst e;have am:XN (fQ wr F l.heap.size H (Xz (XK ⟨g,0,XJ⟩) w.length w.length) (cM w) d s o):=M;have c5:=bm.out;have cF:=am.out.bag.cell 9;have bk:=am.out.bag.lt;simp only[xT,List.getElem?_cons_succ,List.getElem?_cons_zero]at cF;have c7:((cM w).goal.length:Int) > 0:=by omega
   clear M;go_wp2_with fail;go_region
   all_goals go_wp2
   all_goals go_ret2
   all_goals exact⟨F,g,d,s,o,rfl,am.out.Ur (aa.refl [] _).drew,ac.kept (aa.refl [] _).drew (by simp),a3,hK.drew⟩
def ML(x:ByteArray):Prop:=Wd x/\x.size<=1024
theorem jD(a:n.size<=1024):Nm ML (aJ n).2:=qn _ n (fun k c h b=>⟨pg n k c h b,jr n k a⟩) _ 0 _ (Qx _) Nm.empty
theorem Nm.szs(h:Nm ML d):yc d.UD:=by
 intro s e b;have a:=h.UD s e;have c:=a.lab (a.kind.resolve_left b);exact⟨by have:=c.1.2;omega,fun x f=>by have:=(a.syms x f).2;omega⟩
theorem nI(h:Wd H):Ox (H :: w)=XM:=h.notKey 100
theorem sP:Ox (⟨#[36,100]⟩ :: w)=XL:=by
 show((⟨#[36,100]⟩:ByteArray).toList == [36,100])=XL
 rw[QF];rfl
theorem gH(k:Int)(r:List ByteArray)(c:UInt8):f7 (n :: eA k :: r) c=((eA k).toList == [36,c]):=rfl
theorem wR:eA 2=⟨#[36,102]⟩:=rfl
theorem nL:eA 3=⟨#[36,101]⟩:=rfl
theorem sS:eA 4=⟨#[36,97]⟩:=rfl
theorem sU:eA 5=⟨#[36,112]⟩:=rfl
theorem uH(c:UInt8):(⟨#[36,c]⟩:ByteArray).toList=[36,c]:=by rw[QF]
structure A7(s:St):Prop where
 lab:Wd s.label
 syms:∀x∈s.Um,Wd x
 pos:0<s.Um.length
 two:s.kind=2->s.Um.length=2
 sz:(d8 s).size<=1073741824
theorem Nm.stw(h:Nm ML d)(j:∀s∈d.UD,s.Um.length<=10000)(s:St)(e:s∈d.UD)(f:s.kind≠1):A7 s:=by
 have a:=h.UD s e;have b:=a.kind.resolve_left f;obtain⟨c,r,i,-⟩:=a.code b;refine⟨(a.lab b).1.1,fun x k=>(a.syms x k).1,by rw[i];simp,a.two,?_⟩;have:=lU s (h.szs s e f) s.Um.length (PQ _);have g:=j s e;unfold d8;omega
theorem A7.split(h:A7 f):aV (d8 f)=f.label :: eA f.kind :: f.Um:=CO f h.lab.noBl (fun x a=>(h.syms x a).noBl)
theorem nU(c:iT k.1)(a:iT k.2):aV (cB k)=[⟨#[36,100]⟩,k.1,k.2]:=by
 have e:cB k=⟨#[36,100]⟩++(⟨#[32]⟩++k.1)++(⟨#[32]⟩++k.2):=by
  unfold cB;have b:(⟨#[36,100,32]⟩:ByteArray)=⟨#[36,100]⟩++⟨#[32]⟩:=by decide +kernel
  rw[b];simp only[ByteArray.append_assoc]
 rw[e,kP _ _ a,kP _ _ c,qy]
 ·rfl
 ·intro i d;have a:i<2:=d
  match i,a with
  | 0,_=>decide +kernel
  | 1,_=>decide +kernel
theorem zr(h:A7 f)(a:f.kind=2∨f.kind=3)(d:ByteArray)(b:Bool):pT d b (d8 f):=by
 have c:=h.split;refine⟨h.sz,by rw[c];have:=h.pos;simp;omega,P7 ⟨by rw[c];exact nI _ _ h.lab,?_⟩⟩;rw[c];simp only[gH];rcases a with a | a
 ·left
  rw[a,wR,uH];exact⟨rfl,by have:=h.two a;simp[this]⟩
 ·right
  rw[a,nL,uH];exact⟨by decide,P0 rfl⟩
theorem zs(h:A7 f)(d:jl f.kind=XL)(b:ByteArray)(e:f.label.toList=b.toList):pT b XL (d8 f):=by
 have c:=h.split;refine⟨h.sz,by rw[c];have:=h.pos;simp;omega,P7 ⟨by rw[c];exact nI _ _ h.lab,P7 ?_⟩⟩;rw[c];simp only[gH];have a:f.kind=4∨f.kind=5:=by unfold jl at d;simpa using d
 rcases a with a | a <;> rw[a]
 ·rw[sS,uH];exact⟨by decide,P7 ⟨by decide,P0 rfl,by show(f.label.toList==b.toList)=XL;rw[e];simp,by simp⟩⟩
 ·rw[sU,uH];exact⟨by decide,P7 ⟨by decide,P7 rfl,by show(f.label.toList==b.toList)=XL;rw[e];simp,by simp⟩⟩
theorem wS(d:iT k.1)(e:iT k.2)(f:k.1.size<=100000/\k.2.size<=100000)(b:ByteArray)(a:Bool):pT b a (cB k):=by
 have c:=nU k d e;refine⟨?_,by rw[c];simp,P0 (by rw[c];exact sP _)⟩;unfold cB;simp only[ByteArray.size_append,KZ,kr];omega
structure nk(l:List St)(a:Nat):Prop where
 ha:a<l.length
 isa:jl (l[a]'ha).kind=XL
 own:A7 (l[a]'ha)
 hyp:∀n∈al l a,∃h:n<l.length,A7 l[n]/\(l[n].kind=2∨l[n].kind=3)
 prs:∀p∈bN l a,(iT p.1/\iT p.2)/\p.1.size<=100000/\p.2.size<=100000
theorem zG:iT ⟨#[]⟩:=fun i a=>absurd (show i<0 from a) (SE i)
theorem DD(h:∀x∈w,iT x):iT (gD w b):=by
 unfold gD;rw[PK];cases e:w[b]? with
 | none=>exact zG
 | some x=>exact h x (Qp e)
theorem nk.of(h:Nm ML d)(y:dB d.UD)(a:Nat)(q:a<d.UD.length)(l:jl d.UD[a].kind=XL):nk d.UD a:=by
 have r:∀s∈d.UD,s.Um.length<=10000:=fun s w=>by obtain⟨i,v,rfl⟩:=QN w;exact y.syms i v
 have g:∀n∈al d.UD a,∃h:n<d.UD.length,A7 d.UD[n]/\(d.UD[n].kind=2∨d.UD[n].kind=3):=fun n k=>by
  have b:=kD d.UD a n k;have m:=sW d.UD a n k b;exact⟨b,h.stw r _ (PT b) (by omega),m⟩
 refine⟨q,l,h.stw r _ (PT q) (by intro e;rw[e]at l;revert l;decide),g,fun p f=>⟨?_,tz d.UD a h.szs p f⟩⟩;have t:∀x∈bt d.UD (al d.UD a),iT x:=by
  intro x u;unfold bt at u;obtain⟨n,k,c⟩:=Rq.1 u;obtain⟨b,o,-⟩:=g n k;unfold eK at c;rw[PJ b]at c;simp only at c;split at c
  ·cases c
   unfold ak;split
   ·next z =>
    refine(o.syms _ ?_).noBl;rw[PK,PJ (show 1<d.UD[n].Um.length by omega)];exact PT _
   ·exact zG
  ·cases c
 unfold bN tD mS at f;obtain⟨i,-,f⟩:=RI.1 f;unfold iJ at f;obtain⟨j,-,rfl⟩:=Qu.1 f;exact⟨DD _ _ t,DD _ _ t⟩
theorem BB(h:D[S]?=XK i)(a:S<D.length):D[S]=i:=by
 rw[PJ a]at h;exact Qz h
theorem zt(h:nk x S)(a:ByteArray)(n:(x[S]'h.ha).label.toList=a.toList)(k:Nat)(b:k<(aX x S).length):pT a (decide (k+1=(aX x S).length)) (aX x S)[k]:=by
 have g:=mC x S;by_cases f:k<(al x S).length
 ·obtain⟨o,d,c⟩:=h.hyp _ (PT f);rw[BB (vj x S k f o) b];exact zr d c _ _
 ·by_cases p:k<(al x S).length+(bN x S).length
  ·obtain⟨j,rfl⟩:∃j,k=(al x S).length+j:=⟨k-(al x S).length,by omega⟩
   rw[BB (sZ x S j (by omega)) b];obtain⟨⟨i,l⟩,m⟩:=h.prs _ (PT (show j<(bN x S).length by omega));exact wS _ i l m _ _
  ·have e:k=(al x S).length+(bN x S).length:=(by omega);subst e;rw[BB (sY x S h.ha) b,SV (by omega)];exact zs h.own h.isa a n
def mR(l:List St)(n:Nat):ByteArray:=match l[n]? with | some s=>s.label | none=>⟨#[]⟩
theorem Ap(h:A7 f)(a:f.kind=2∨f.kind=3)(b:Fm):(bP b (aV (d8 f))).hyps=b.hyps++[f.label]/\(bP b (aV (d8 f))).goal=b.goal:=by
 rw[h.split];have d:=nI f.label (eA f.kind :: f.Um) h.lab;rcases a with a | a
 ·have e:=h.two a;have c:f7 (f.label :: eA f.kind :: f.Um) 102=XL:=by rw[gH,a,wR,uH];rfl
  unfold bP;rw[PV (by rw[d];simp),PZ ⟨c,by simp[e]⟩];exact⟨rfl,rfl⟩
 ·have c:f7 (f.label :: eA f.kind :: f.Um) 102=XM:=by rw[gH,a,nL,uH];decide
  have g:f7 (f.label :: eA f.kind :: f.Um) 101=XL:=by rw[gH,a,nL,uH];rfl
  unfold bP;rw[PV (by rw[d];simp),PV (by rw[c];simp),PZ g];exact⟨rfl,rfl⟩
theorem vR(a:iT k.1)(b:iT k.2)(f:Fm):(bP f (aV (cB k))).hyps=f.hyps/\(bP f (aV (cB k))).goal=f.goal:=by
 rw[nU k a b];unfold bP;rw[PZ (sP _)];exact⟨rfl,rfl⟩
theorem JX(h:A7 f)(c:jl f.kind=XL)(b:Fm):(bP b (aV (d8 f))).hyps=b.hyps/\(bP b (aV (d8 f))).goal=f.Um:=by
 rw[h.split];have d:=nI f.label (eA f.kind :: f.Um) h.lab;have a:f.kind=4∨f.kind=5:=by unfold jl at c;simpa using c
 have g:f7 (f.label :: eA f.kind :: f.Um) 102=XM:=by
  rw[gH];rcases a with e | e <;> rw[e]
  ·rw[sS,uH];decide
  ·rw[sU,uH];decide
 have i:f7 (f.label :: eA f.kind :: f.Um) 101=XM:=by
  rw[gH];rcases a with e | e <;> rw[e]
  ·rw[sS,uH];decide
  ·rw[sU,uH];decide
 unfold bP;rw[PV (by rw[d];simp),PV (by rw[g];simp),PV (by rw[i];simp)];exact⟨rfl,rfl⟩
theorem EY(l:List St)(a:List Nat)(h:∀n∈a,∃h:n<l.length,A7 l[n]/\(l[n].kind=2∨l[n].kind=3))(f:Fm) :
  ((a.map (ce l)).foldl (fun f x=>bP f (aV x)) f).hyps=f.hyps++a.map (mR l)/\((a.map (ce l)).foldl (fun f x=>bP f (aV x)) f).goal=f.goal:=by
 induction a generalizing f with
 | nil=>simp
 | cons n a k =>
  obtain⟨c,b,d⟩:=h n (by simp);have e:ce l n=d8 l[n]:=by unfold ce;rw[PJ c]
  have g:mR l n=l[n].label:=by unfold mR;rw[PJ c]
  simp only[List.map_cons,List.foldl_cons];obtain⟨i,j⟩:=k (fun n c=>h n (Qv _ c)) (bP f (aV (ce l n)));rw[i,j,e,g,(Ap b d f).1,(Ap b d f).2];simp
theorem Bx(a:List Pr)(h:∀p∈a,iT p.1/\iT p.2)(f:Fm):((a.map cB).foldl (fun f x=>bP f (aV x)) f).hyps=f.hyps/\((a.map cB).foldl (fun f x=>bP f (aV x)) f).goal=f.goal:=by
 induction a generalizing f with
 | nil=>simp
 | cons p a g =>
  simp only[List.map_cons,List.foldl_cons];obtain⟨d,e⟩:=g (fun n c=>h n (Qv _ c)) (bP f (aV (cB p)));have b:=h p (by simp);rw[d,e,(vR p b.1 b.2 f).1,(vR p b.1 b.2 f).2];exact⟨rfl,rfl⟩
theorem oY(h:nk x S):(cM (aX x S)).hyps=(al x S).map (mR x)/\(cM (aX x S)).goal=(x[S]'h.ha).Um:=by
 unfold cM fK;rw[QJ];unfold aX;rw[Rb,Rb];have b:ce x S=d8 (x[S]'h.ha):=by unfold ce;rw[PJ h.ha]
 simp only[List.foldl_cons,List.foldl_nil,b];obtain⟨c,j⟩:=EY x (al x S) h.hyp xS;obtain⟨i,k⟩:=Bx (bN x S) (fun p d=>(h.prs p d).1) (((al x S).map (ce x)).foldl (fun f a=>bP f (aV a)) xS);obtain⟨e,g⟩:=JX h.own h.isa (((bN x S).map cB).foldl (fun f a=>bP f (aV a)) (((al x S).map (ce x)).foldl (fun f a=>bP f (aV a)) xS));rw[e,g,i,c];exact⟨by simp[xS],rfl⟩
def qF(T u:ByteArray):Prop:=∃a,a+u.size<=T.size/\∀i,i<u.size->ar T (a+i)=ar u i
theorem qF.pre{y:ByteArray}(h:qF i (o++y)):qF i o:=by
 obtain⟨a,b,c⟩:=h;rw[Qd]at b;refine⟨a,by omega,fun e d=>?_⟩;rw[c e (by rw[Qd];omega),aW _ _ _ d]
theorem qF.cut(c:b<=v.size):qF v (v.extract T b):=by
 refine⟨min T b,?_,?_⟩
 ·rw[Rj];omega
 ·intro i a;rw[Rj]at a;rw[lG v T b i c (by omega),SD (by omega)]
def GR(T x:ByteArray):Prop:=ML x/\qF T x
theorem mF(c:n.size<=1024):Nm (GR n) (aJ n).2:=qn _ n (fun k b h d=>⟨⟨pg n k b h d,jr n k c⟩,by
 obtain⟨a,z,f,e⟩:=vt n k b h;rw[e];exact qF.cut n a z f⟩) _ 0 _ (Qx _) Nm.empty
theorem jY(d:¬qF i o)(l:List ByteArray)(b:∀x∈l,qF i x)(y:ByteArray):aM l (o++y)=XM:=by
 unfold aM;rw[Rv];intro x c a;have e:=so a;exact d (qF.pre (y:=y) (e ▸ b x c))
theorem Do:((v++H).toList==(v++n).toList)=(H.toList==n.toList):=by
 simp only[ByteArray.toList_eq,ByteArray.data_append,Array.toList_append];rw[SG];simp
def uo(n:Nat):ByteArray:=⟨#[UInt8.ofNat (48+n % 10)]⟩
def qL:Nat->Nat->ByteArray->ByteArray
 | 0,_,s=>s
 | f+1,n,s=>if 0<n then qL f (n / 10) (uo n++s) else s
def dy(n:Nat):ByteArray:=qL 20 (n / 10) (uo n)
def Ib(s:ByteArray):Nat:=s.toList.foldl (fun a b=>a*10+(b.toNat-48)) 0
def wN(s:ByteArray):Bool:=s.toList.all (fun b=>decide (48<=b.toNat)&&decide (b.toNat<=57))&&decide (0<s.size)&&decide (s.size<=4)
theorem Lb:(List.range 1025).all (fun n=>(Ib (dy n)==n)&&wN (dy n))=XL:=by decide +kernel
theorem wA(h:b<=1024):Ib (dy b)=b/\wN (dy b)=XL:=by
 have:=QR.1 Lb b (Qe.2 (by omega));simpa using this
theorem Lc(c:T<=1024)(a:b<=1024)(h:dy T=dy b):T=b:=by
 rw[<-(wA T c).1,<-(wA b a).1,h]
theorem su(d:b<=1024)(i:Nat)(a:i<(dy b).size):48<=ar (dy b) i/\ar (dy b) i<=57:=by
 have h:=(wA b d).2;unfold wN at h;simp only[Bool.and_eq_true,decide_eq_true_eq]at h;have c:=QR.1 h.1.1 (dy b)[i] (by rw[QF];exact Array.getElem_mem_toList _);simp only[Bool.and_eq_true,decide_eq_true_eq]at c;rw[aY _ _ a];omega
theorem yJ(a:b<=1024):0<(dy b).size/\(dy b).size<=4:=by
 have h:=(wA b a).2;unfold wN at h;simp only[Bool.and_eq_true,decide_eq_true_eq]at h;exact⟨h.1.2,h.2⟩
def zF(n:Nat):ByteArray:=⟨#[122]⟩++dy n++⟨#[122]⟩
theorem kV:(⟨#[122]⟩:ByteArray).size=1:=rfl
theorem mM:(zF b).size=(dy b).size+2:=by unfold zF;rw[Qd,Qd,kV];omega
theorem xQ:ar (zF b) 0=122/\(∀i,i<(dy b).size->ar (zF b) (1+i)=ar (dy b) i)/\ar (zF b) (1+(dy b).size)=122:=by
 unfold zF;refine⟨?_,?_,?_⟩
 ·rw[aW _ _ 0 (by rw[Qd,kV];omega),aW _ _ 0 (by rw[kV];omega)];decide +kernel
 ·intro i a;rw[aW _ _ _ (by rw[Qd,kV];omega)];have:=bi ⟨#[122]⟩ (dy b) i a;rw[kV]at this;exact this
 ·have:=bi (⟨#[122]⟩++dy b) ⟨#[122]⟩ 0 (by rw[kV];omega);rw[QT,Qd,kV]at this;rw[this];decide +kernel
theorem MG(m:a<=1024)(l:T<=1024)(e:∀i,i<(zF a).size->ar v (b+i)=ar (zF a) i)(f:∀i,i<(zF T).size->ar v (b+i)=ar (zF T) i):a=T:=by
 have r:=mM a;have sm:=mM T;obtain⟨-,o,q⟩:=xQ a;obtain⟨-,n,p⟩:=xQ T;have g:(dy a).size=(dy T).size:=by
  rcases Sc (dy a).size (dy T).size with h | h | h
  ·exfalso
   have c:=e (1+(dy a).size) (by omega);have d:=f (1+(dy a).size) (by omega);rw[q]at c;rw[n _ h]at d;have:=su T l _ h;omega
  ·exact h
  ·exfalso
   have c:=e (1+(dy T).size) (by omega);have d:=f (1+(dy T).size) (by omega);rw[p]at d;rw[o _ h]at c;have:=su a m _ h;omega
 refine Lc a T m l ?_;apply Sm g;intro i j k;have c:=e (1+i) (by omega);have d:=f (1+i) (by omega);rw[o i j]at c;rw[n i k]at d;rw[aY _ _ j]at c;rw[aY _ _ k]at d;exact UInt8.toNat_inj.1 (by omega)
theorem zJ(n:Nat):∀l:List Nat,l.Nodup->(∀x∈l,x<n)->l.length<=n:=by
 induction n with
 | zero =>
  intro l _ h;cases l with
  | nil=>exact PQ _
  | cons a l=>exact absurd (h a (by simp)) (SE _)
 | succ n f =>
  intro l c h;by_cases e:n∈l
  ·have g:=f (l.erase n) (c.erase n) (fun x b=>by
    have d:=(List.Nodup.mem_erase_iff c).1 b;have:=h x d.2
    omega)
   rw[List.length_erase_of_mem e]at g;omega
  ·have:=f l c (fun x b=>by
    have:=h x b;have:x≠n:=by rintro rfl;exact e b
    omega)
   omega
theorem Iv(u:n.size<=1024)(h:∀c,c<=n.size->qF n (zF c)):False:=by
 have d:∀c,∃a,c<=n.size->a<n.size/\∀i,i<(zF c).size->ar n (a+i)=ar (zF c) i:=by
  intro c;by_cases g:c<=n.size
  ·obtain⟨a,t,l⟩:=h c g;have:=mM c;exact⟨a,fun _=>⟨by omega,l⟩⟩
  ·exact⟨0,fun h=>absurd h g⟩
 obtain⟨f,k⟩:∃f:Nat->Nat,∀c,c<=n.size->f c<n.size/\∀i,i<(zF c).size->ar n (f c+i)=ar (zF c) i:=⟨fun c=>Classical.choose (d c),fun c=>Sl (d c)⟩
 have r:((List.range (n.size+1)).map f).Nodup:=by
  rw[List.nodup_iff_pairwise_ne,List.pairwise_map];refine List.Pairwise.imp_of_mem ?_ (List.nodup_range (n:=n.size+1));intro a b m p j e;have o:=Qe.1 m;have q:=Qe.1 p;exact j (MG n a b (f a) (by omega) (by omega) (k a (by omega)).2 (by rw[e];exact(k b (by omega)).2))
 have:=zJ n.size _ r (fun x s=>by
  obtain⟨c,g,rfl⟩:=Qu.1 s;exact(k c (by have:=Qe.1 g;omega)).1)
 simp at this;omega
theorem OV(m:b<=1024)(y:ByteArray)(n:∀i,i<y.size->dQ (ar y i)=XL/\ar y i≠36/\gI (ar y i)=XL):Wd (zF b++y)/\dF (zF b++y)=XL:=by
 have o:=mM b;obtain⟨e,f,g⟩:=xQ b;have c:∀i,i<(zF b++y).size->dQ (ar (zF b++y) i)=XL/\ar (zF b++y) i≠36/\gI (ar (zF b++y) i)=XL:=by
  intro i a;by_cases h:i<(zF b).size
  ·rw[aW _ _ _ h];have d:ar (zF b) i=122∨(48<=ar (zF b) i/\ar (zF b) i<=57):=by
    by_cases k:i=0
    ·subst k;left;exact e
    ·by_cases l:i=1+(dy b).size
     ·subst l;left;exact g
     ·right
      have:=f (i-1) (by omega);rw[show 1+(i-1)=i by omega]at this;rw[this];exact su b m _ (by omega)
   generalize ar (zF b) i=v at d;unfold dQ gI;rcases d with rfl | d
   ·decide
   ·refine⟨by simp;omega,by omega,?_⟩;simp;omega
  ·obtain⟨j,rfl⟩:∃j,i=(zF b).size+j:=⟨i-(zF b).size,by omega⟩
   rw[Qd]at a;rw[bi _ _ _ (by omega)];exact n j (by omega)
 refine⟨⟨by rw[Qd];omega,fun i a=>⟨(c i a).1,(c i a).2.1⟩⟩,?_⟩;unfold dF;rw[QR];intro i a;exact(c i (Qe.1 a)).2.2
def Eg(s u:ByteArray)(i:Nat):Bool:=(s.extract i (i+u.size)).toList==u.toList
def As(s u:ByteArray):Bool:=(List.range (s.size+1)).any (fun i=>decide (i+u.size<=s.size)&&Eg s u i)
theorem NO(h:As i o=XM):¬qF i o:=by
 rintro ⟨a,b,c⟩;unfold As at h;rw[Rv]at h;refine h a (Qe.2 (by omega)) ?_;have:=sA i o a b c;simp[b,Eg,this]
theorem Nt(h:As i o=XL):qF i o:=by
 unfold As at h;obtain⟨a,-,b⟩:=SZ.1 h;simp only[Bool.and_eq_true,decide_eq_true_eq]at b;have e:=so b.2;refine⟨a,b.1,fun c d=>?_⟩;have:=lG i a (a+o.size) c b.1 (by omega);rw[<-this,e]
set_option maxRecDepth 512
theorem IG(s:v.size<=4294967296)(t:H.size<=4294967296) :
  XO prog 55 #[Xy v,Xy H] l fun e p=>e=XH (XC (As v H))/\p=l:=by
 go_enter func55,ntmps55;go_wp2
 go_loopg [5] (v.size+1) (fun g i wr=>∃k:Nat,k<=v.size+1/\g=v.size+1-k/\i=Xx XF k/\XN (∀i,i<k->i+H.size<=v.size->Eg v H i=XM)/\wr=l)
 case atStart=>exact⟨0,by omega,by omega,rfl,fun i h=>by omega,rfl⟩
 case round =>
  obtain⟨k,r,q,rfl,a,rfl⟩:=hrel;by_cases d:k+H.size<=v.size
  ·have m:(k:Int)<=(k:Int)+(H.size:Int):=(by omega);have n:(k:Int)+(H.size:Int)<=(v.size:Int):=(by omega);have o:((k:Int)+(H.size:Int)).toNat=k+H.size:=(by omega);cases f:((v.extract k (k+H.size)).toList==H.toList)
   ·go_wp2;go_roundg (v.size+1-(k+1))
    case measure=>omega
    case rel =>
     refine⟨k+1,by omega,rfl,by go_num,?_,rfl⟩;intro i j b;by_cases e:i=k
     ·subst e;exact f
     ·exact a.out i (by omega) b
   ·have c:XN (As v H=XL):=oz k (by omega) (by simp[d,Eg,f]);go_wp2;go_ret;exact⟨aH c.out.symm,rfl⟩
  ·have c:XN (As v H=XM):=rZ (fun i j=>by
    by_cases b:i+H.size<=v.size
    ·simp[a.out i (by omega) b]
    ·simp[b])
   go_wp2;go_ret;exact⟨aH c.out.symm,rfl⟩
theorem yI:(convert 148 9 (Xz (XK ⟨l.heap.size,0,XJ⟩) 1 1)).run prog (l.alloc (XE #[Xx XG (48+(T:Int) % 10)] 5))=.ok (Xy (uo T)) (l.alloc (XE #[Xx XG (48+(T:Int) % 10)] 5)):=by
 have e:(48+(T:Int) % 10)=((UInt8.ofNat (48+T % 10)).toNat:Int):=by
  rw[UInt8.toNat_ofNat'];omega
 rw[e]
 exact run_convert_bytes_back (l.alloc (XE #[Xx XG ((UInt8.ofNat (48+T % 10)).toNat:Int)] 5)) 148 9 5 ⟨l.heap.size,0,XJ⟩ 1 [UInt8.ofNat (48+T % 10)] underlying148 underlying5 underlying9 (by
  intro j a
  match j,a with
  | 0,_=>simp[Addr.add])
theorem mw:(uo b).size=1:=rfl
theorem Bj:qL b 0 n=n:=by cases b <;> rfl
theorem ky(A:T<=9999) :
  XO prog 62 #[Xx XF T] l fun e x=>e=XH (Xy (dy T))/\aa [] l x:=by
 have c:=fun q=>yI T q;have a:0<=(T:Int) % 10/\(T:Int) % 10<=9:=by omega
 go_enter func62,ntmps62;go_wp2
 go_loopg [0,3] (T / 10) (fun g v w wr=>∃(f m:Nat) (s:ByteArray),g=m/\v=Xx XF m/\w=Xy s/\m<10 ^ f/\m<=9999/\s.size+f<=21/\XN (qL f m s=dy T)/\aa [] l wr)
 case atStart=>exact⟨20,T / 10,uo T,rfl,by simp,rfl,by omega,by omega,(by rw[mw];omega),rfl,(aa.refl _ _).alloc _⟩
 case round =>
  obtain⟨f,m,s,y,rfl,rfl,t,z,B,i,r⟩:=hrel;clear c a;by_cases p:0<m
  ·have c:=fun q=>yI m q;have a:0<=(m:Int) % 10/\(m:Int) % 10<=9:=(by omega);have u:(m:Int) > 0:=(by omega);obtain⟨b,rfl⟩:∃b,f=b+1:=by
    cases f with
    | zero=>simp at t;omega
    | succ b=>exact⟨b,rfl⟩
   have j:XN (qL b (m / 10) (uo m++s)=dy T):=by
    show _=_;rw[<-i.out,qL,PZ p]
   have n:=mw m;have o:m / 10<10 ^ b:=by
    rw[Nat.pow_succ]at t;exact Tk (by omega)
   have d:(uo m++s).size=1+s.size:=(by rw[Qd,n]);have k:XN _:=d;clear i d;go_wp2;go_roundg (m / 10)
   case measure=>omega
   case rel=>exact⟨b,m / 10,uo m++s,rfl,by simp,rfl,o,by omega,by have:=k.out;omega,j,r.alloc _⟩
  ·have e:m=0:=(by omega);subst e;have j:XN (s=dy T):=by show _=_;rw[<-i.out,Bj]
   clear i;go_wp2;go_ret;exact⟨kK j.out,r⟩
theorem E0(o:Option Nat)(w:XP)(y:aR w T b n o)(x:dV n) :
  XO prog 60 #[XA (XK ⟨T,0,XJ⟩)] w fun e E=>∃l,l<=1024/\e=XH (Xy (zF l))/\¬qF n (zF l)/\aa [] w E:=by
 have p:=x.size;go_enter func60,ntmps60;go_wp2
 go_loopg [3] (n.size+1) (fun g i wr=>∃k:Nat,k<=n.size+1/\g=n.size+1-k/\i=Xx XF k/\XN (∀j,j<k->qF n (zF j))/\aa [] w wr)
 case atStart=>exact⟨0,by omega,by omega,rfl,fun i h=>by omega,aa.refl _ _⟩
 case round =>
  obtain⟨k,J,H,rfl,a,m⟩:=hrel;have c:=y.Ur m;obtain⟨s,t,-⟩:=c.cells;have A:=c.lt;by_cases C:k<=n.size
  ·have B:=yJ k (by omega);have r:XN (⟨#[122]⟩++dy k++⟨#[122]⟩=zF k):=rfl;have D:=mM k;go_wp2_with fail;refine(ky k wr (by omega)).mono ?_;rintro e F ⟨rfl,q⟩;have d:=c.Ur q;clear s t;obtain⟨s,t,-⟩:=d.cells;have z:=d.lt;generalize hdk:dy k=G at *;go_wp2_with fail;rw[r.out];refine(IG n (zF k) F (by omega) (by omega)).mono ?_;rintro e L ⟨rfl,rfl⟩;cases f:As n (zF k)
   ·have v:XN _:=NO f;go_wp2;go_ret;rw[r.out];exact⟨k,by omega,rfl,v.out,m.trans q⟩
   ·have u:XN _:=Nt f;go_wp2;go_roundg (n.size+1-(k+1))
    case measure=>omega
    case rel =>
     refine⟨k+1,by omega,rfl,by go_num,?_,m.trans q⟩;intro j I;by_cases e:j=k
     ·subst e;exact u.out
     ·exact a.out j (by omega)
  ·exact(Iv n p (fun l K=>a.out l (by omega))).elim
end Go.Proofs.YtnbalopedcgpcaaGreat
