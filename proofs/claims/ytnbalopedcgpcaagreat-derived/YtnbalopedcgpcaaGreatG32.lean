import Derived.Test.YtnbalopedcgpcaaGreatG31
namespace Go.Proofs.YtnbalopedcgpcaaGreat
open Go.RowKit Tryz
open Value renaming int->Xx,string->Xy,slice->Xz,pointer->XA,agg->XB,bool->XC
open Obj renaming cells->XE
open IntKind renaming i64->XF
open Ending renaming returned->XH
open World renaming cell?->XI
open Option renaming none->XJ,some->XK
open Bool renaming true->XL,false->XM
open Go.RowKit renaming Hid->XN
open Go renaming Calls->XO,World->XP
set_option maxHeartbeats 0
set_option maxRecDepth 100000
theorem Br(b x:Nat)(T:ByteArray)(X g:Nat)(M:List Rw)(B:Nat)(k:Bk)(H:Nat->Hd)(fr:Int)(ff:ByteArray)(fl fc:Int)(w:XP)(hW:aR w b x T (XK X))(Y:dq w (XK g) (bu T++M))(ok:yb (bu T++M))(hB:mN w B k H)(h1:XN (k.names=M.map (·.label)))(h2:XN (k.verdicts=M.map (·.Us)))(h3:XN (k.whys=M.map (·.why)))(hM:M.length<=1000) :
  XO prog 30 #[XA (XK ⟨b,0,XJ⟩),XB #[Xz (XK ⟨g,0,XJ⟩) (bu T++M).length (bu T++M).length,Xx XF fr,Xy ff,Xx XF fl,Xx XF fc,Xx XF 0],XA (XK ⟨B,0,XJ⟩)] w fun e a=>e=XH (XC XL)/\aa [] w a:=by
 have Q:=ok.len;have ad:XN ((bu T++M).length=(bu T).length+M.length):=Qa;obtain⟨N,HN⟩:∃N,XN ((bu T++M).length=N):=⟨_,rfl⟩
 obtain⟨n,V⟩:∃n,XN ((bu T).length=n):=⟨_,rfl⟩
 obtain⟨m,t⟩:∃m,XN (M.length=m):=⟨_,rfl⟩
 have O:XN (N=n+m):=by show N=n+m;rw[<-HN.out,<-V.out,<-t.out];exact ad.out
 have ac:XN (∀a,aa [] w a->XO prog 56 #[Xz (XK ⟨X,0,XJ⟩) n n,Xz (XK ⟨g,0,XJ⟩) N N] a fun e ai=>e=XH (XC XL)/\aa [] a ai):=fun a q=>by
  have:=si (XK X) (XK g) (bu T) M a (hW.Ur q).rows (Y.kept q (by simp)) ok;rw[HN.out,V.out]at this;exact this
 have U:XN (∀a,aa [] w a->b<a.heap.size/\B<a.heap.size/\g<a.heap.size/\XI a ⟨b,2,XJ⟩=XK (Xz (XK ⟨X,0,XJ⟩) n n)/\XI a ⟨B,13,XJ⟩=XK (Xz (H 4).ao m (H 4).cap)/\XI a ⟨B,14,XJ⟩=XK (Xz (H 5).ao m (H 5).cap)/\XI a ⟨B,15,XJ⟩=XK (Xz (H 6).ao m (H 6).cap)):=fun a q=>by
  have q1:=hW.Ur q;have s:=aB.Ur hB q;obtain⟨-,-,o⟩:=q1.cells;rw[V.out]at o;refine⟨q1.lt,s.lt,ae (Y.kept q (by simp)).2,o,?_,?_,?_⟩
  ·rw[s.cell];show XK (Xz _ k.names.length _)=_;rw[h1.out,Qh,t.out]
  ·rw[s.cell];show XK (Xz _ k.verdicts.length _)=_;rw[h2.out,Qh,t.out]
  ·rw[s.cell];show XK (Xz _ k.whys.length _)=_;rw[h3.out,Qh,t.out]
 have HE:XN (∀a j (P:j<M.length),aa [] w a->∃A C D,(H 4).ao=XK ⟨A,0,XJ⟩/\(H 5).ao=XK ⟨C,0,XJ⟩/\(H 6).ao=XK ⟨D,0,XJ⟩/\(A<a.heap.size/\C<a.heap.size/\D<a.heap.size)/\XI a ⟨A,j,XJ⟩=XK (Xy M[j].label)/\XI a ⟨C,j,XJ⟩=XK (Xx XF M[j].Us)/\XI a ⟨D,j,XJ⟩=XK (Xx XF M[j].why) /\
   XI a ⟨g,(n+j)*6,XJ⟩=XK (Xy M[j].label)/\XI a ⟨g,(n+j)*6+1,XJ⟩=XK (Xx XF M[j].Us)/\XI a ⟨g,(n+j)*6+2,XJ⟩=XK (Xx XF M[j].why)/\XI a ⟨g,(n+j)*6+3,XJ⟩=XK (Xy M[j].at_.file)/\XI a ⟨g,(n+j)*6+4,XJ⟩=XK (Xx XF M[j].at_.line)/\XI a ⟨g,(n+j)*6+5,XJ⟩=XK (Xx XF M[j].at_.col)):=fun a j P q=>by
  have s:=aB.Ur hB q;have o4:aE a (H 4) (au (M.map (·.label))):=by have:=s.own 4;rw[<-h1.out];exact this
  have o5:aE a (H 5) (fN (M.map (·.Us))):=by have:=s.own 5;rw[<-h2.out];exact this
  have o6:aE a (H 6) (fN (M.map (·.why))):=by have:=s.own 6;rw[<-h3.out];exact this
  obtain⟨A,G,l4,-⟩:=mD o4 (show 0<(M.map _).length by rw[Qh];omega);obtain⟨C,I,l5,-⟩:=mD o5 (show 0<(M.map _).length by rw[Qh];omega);obtain⟨D,J,l6,-⟩:=mD o6 (show 0<(M.map _).length by rw[Qh];omega);have ah:(bu T).length+j<(bu T++M).length:=by rw[Qa];omega
  have ag:=(Y.kept q (by simp)).2;have F:=Ag ag (L:=bu T++M) (fun i v h=>by simpa using h) ((bu T).length+j) ah;have eM:(bu T++M)[(bu T).length+j]=M[j]:=by rw[TE (by omega)];congr 1;omega
  rw[eM,V.out]at F;refine⟨A,C,D,G,I,J,⟨l4,l5,l6⟩,?_,?_,?_,F⟩
  ·exact o4.cell G j _ (by simp[au,strs,P])
  ·exact o5.cell I j _ (by simp[fN,P])
  ·exact o6.cell J j _ (by simp[fN,P])
 rw[HN.out]at Q ⊢;have K:XN ((N:Int)=(n:Int)+(m:Int)):=by have:=O.out;show(N:Int)=_;omega
 have am:((N:Int) != (n:Int)+(m:Int))=XM:=by rw[K.out];simp
 have a5:m<=1000:=by rw[<-t.out];exact hM
 have a6:n<=100000:=by have:=O.out;omega
 have bc:IntKind.i64.wrap ((n:Int)+(m:Int))=(n:Int)+(m:Int):=by rw[Re];omega
 obtain⟨W,HW⟩:∃W,XN (w.alloc (XE #[Xz (XK ⟨g,0,XJ⟩) N N,Xx XF fr,Xy ff,Xx XF fl,Xx XF fc,Xx XF 0] 87)=W):=⟨_,rfl⟩
 have u:aa [] w W:=by rw[<-HW.out];exact(aa.refl [] _).alloc _
 have BW:W.heap[w.heap.size]?=XK (XE #[Xz (XK ⟨g,0,XJ⟩) N N,Xx XF fr,Xy ff,Xx XF fl,Xx XF fc,Xx XF 0] 87):=by rw[<-HW.out];exact PM _ _
 obtain⟨q,Hq⟩:∃q,XN (w.heap.size=q):=⟨_,rfl⟩
 rw[Hq.out]at BW;have HS:XN (∀a,aa [] W a->q<a.heap.size/\XI a ⟨q,0,XJ⟩=XK (Xz (XK ⟨g,0,XJ⟩) N N)/\XI a ⟨q,5,XJ⟩=XK (Xx XF 0)):=fun a k'=>by
  have:=k'.get BW (by simp);exact⟨ae this,by rw[ab this];rfl,by rw[ab this];rfl⟩
 obtain⟨f,d,l,o,c,-,-⟩:=U.out W u;obtain⟨p,Z,s5⟩:=HS.out W (aa.refl _ _);clear hW Y hB BW;go_enter func30,ntmps30;go_upto_region 1 with fail
 rw[HW.out,Hq.out];go_upto_region 2 with fail
 go_region_with (go_at_call 56;refine(ac.out _ (by exact u.trans (aa.refl [] W).drew)).mono ?_;rintro e w4 ⟨rfl,k4⟩)
 all_goals
  have K4:XN _:=(aa.refl [] W).drew.trans k4;clear f d l o c p Z s5 k4;obtain⟨f,d,l,o,c,-,-⟩:=U.out w4 (u.trans K4.out);obtain⟨p,Z,s5⟩:=HS.out w4 K4.out;go_upto_region 3 with fail
  go_quiet (fail);obtain⟨S,H5⟩:∃S,XN (w4.drewN nq=S):=⟨_,rfl⟩
  rw[H5.out];have K5:XN (aa [] W S):=by show aa [] W S;rw[<-H5.out];exact K4.out.drewN nq
  clear f d l o c p Z s5;obtain⟨f,d,l,o,c,y,z⟩:=U.out S (u.trans K5.out);go_wp2
  go_loopg [9] m (fun gk i wr=>∃j:Nat,j<=m/\gk=m-j/\i=Xx XF j/\XN (aa [] W wr))
  case atStart=>exact⟨0,by omega,by omega,rfl,K5⟩
  case round =>
   obtain⟨j,P,az,rfl,E⟩:=hrel;clear f d l o c y z;obtain⟨f,d,l,o,c,y,z⟩:=U.out wr (u.trans E.out);obtain⟨p,Z,s5⟩:=HS.out wr E.out;by_cases R:j<m
   ·have a4:(j:Int)<m:=(by omega);have a3:(n:Int)+(j:Int)<N:=(by have:=K.out;omega);have a9:IntKind.i64.wrap ((n:Int)+(j:Int))=(n:Int)+(j:Int):=(by rw[Re];omega);have a8:((n:Int)+(j:Int)).toNat=n+j:=(by omega);have a7:¬((n:Int)+(j:Int)<0):=(by omega);obtain⟨A,C,D,G,I,J,⟨l4,l5,l6⟩,a0,a1,a2,r0,r1,r2,r3,r4,r5⟩:=HE.out wr j (by rw[t.out];exact R) (u.trans E.out);rw[G]at c;rw[I]at y;rw[J]at z;clear G I J;generalize M[j]'(by rw[t.out];exact R)=r at *;obtain⟨la,ve,wy,⟨fi,li,co⟩⟩:=r;simp only at a0 a1 a2 r0 r1 r2 r3 r4 r5;have ap:(la.toList != la.toList)=XM:=(by simp);have aq:(ve != ve)=XM:=(by simp);have av:(wy != wy)=XM:=(by simp);(go_upto_region 9 with fail);go_quiet (fail);go_wp2;go_roundg (m-(j+1))
    case measure=>omega
    case rel=>exact⟨j+1,by omega,rfl,by go_num,(E.out.alloc _).drewN nq⟩
   ·go_wp2;go_ret;exact⟨rfl,u.trans E.out⟩
end Go.Proofs.YtnbalopedcgpcaaGreat
