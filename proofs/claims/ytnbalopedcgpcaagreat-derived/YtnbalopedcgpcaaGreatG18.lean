import Derived.Test.YtnbalopedcgpcaaGreatG17
namespace Go.Proofs.YtnbalopedcgpcaaGreat
open Go.RowKit Tryz
open Value renaming int->Xx,string->Xy,slice->Xz,pointer->XA,agg->XB,bool->XC
open Obj renaming cells->XE
open IntKind renaming i64->XF
open Ending renaming returned->XH
open World renaming cell?->XI
open Option renaming none->XJ,some->XK
open Bool renaming true->XL,false->XM
open Go.RowKit renaming Hid->XN
open Go renaming Calls->XO,World->XP
set_option maxHeartbeats 0
variable{H I:XP}{n k S:Nat}{a:Nat->Hd}{l:List St}{x:List Rw}(d T:Nat)(b:List St)(o:List ByteArray)(D:List Bool)(y:Nat)(M:List Rw)(i:Pl)(N:List ByteArray)(f:List gY)(L:List (List ByteArray)×List (List ByteArray))(w:Nat)
def ig(l:List St)(vs:List ByteArray)(ms:List Bool)(S:List (List ByteArray)×List (List ByteArray))(s:gY):Int×List (List ByteArray)×List (List ByteArray) :=
 if((eW l vs ms S.1 S.2 s).1.1==0)=XL then
  (if(eW l vs ms S.1 S.2 s).1.2.length<=32 then(0,S.1++[(eW l vs ms S.1 S.2 s).1.2],(eW l vs ms S.1 S.2 s).2++[(eW l vs ms S.1 S.2 s).1.2]) else(10,S))
 else((eW l vs ms S.1 S.2 s).1.1,S)
theorem je.turned{m:XP}{g j l:Nat}{r s b c:List Ex}{f:Nat->Hd}(h:je H I n k S g j l r s a)(t:aj n I a m f)(i:aB m n 247 (kI k S g j l b c f) (pB b c) f)(o:∀e∈b,nj I n a e.hd e.xs/\e.xs.length<=32)(p:∀e∈c,nj I n a e.hd e.xs/\e.xs.length<=32):je H m n k S g j l b c f:=by
 refine⟨⟨i,fun e d=>⟨(o e d).1.turned t,(o e d).2⟩,fun e d=>⟨(p e d).1.turned t,(p e d).2⟩⟩,h.kept.ofP t.1 ?_,h.hb,fun x q=>?_⟩
 ·rintro x (e | e)
  ·have:=h.hb;omega
  ·exact h.hin x e
 ·rcases t.2 x q with e | e
  ·exact h.hin x e
  ·exact Qk h.kept.size e
set_option maxRecDepth 100000
theorem Jg(w0 w:XP)(b R S g T:Nat)(s:gY)(l:List St)(HR K:Nat->Hd)(y:List ByteArray)(x:List Bool)(hv hm:Hd)(a p:List Ex)(H:Nat->Hd)(E:AZ w0 R S g T l HR K y x hv hm)(P:je w0 w b R S g l.length T a p H)(hn:(s.kind==3)=XM->s.Un<l.length)(a1:s.Un<=2000000)(a2:p.length<=2000000)(a7:a.length<=2000000) :
  XO prog 158 #[XA (XK ⟨b,0,XJ⟩),XB #[Xx XF s.kind,Xx XF s.Un,Xy s.at_.file,Xx XF s.at_.line,Xx XF s.at_.col]] w fun e w'=>∃(N O:List Ex) (H':Nat->Hd),
   e=XH (Xx XF (ig l y x (a.map Ex.xs,p.map Ex.xs) s).1)/\je w0 w' b R S g l.length T N O H' /\
   (((ig l y x (a.map Ex.xs,p.map Ex.xs) s).1==0)=XL->(N.map Ex.xs,O.map Ex.xs)=(ig l y x (a.map Ex.xs,p.map Ex.xs) s).2)/\O.length<=p.length+1/\N.length<=a.length+1:=by
 obtain⟨i1,Z,ai,am,ap⟩:=Qq wM;obtain⟨W,hW⟩:∃W,W=w.alloc (XE #[Xx XF s.kind,Xx XF s.Un,Xy s.at_.file,Xx XF s.at_.line,Xx XF s.at_.col] 205):=⟨_,rfl⟩
 have kW:aa [] w W:=by rw[hW];exact(aa.refl [] _).alloc _
 have B:W.heap[w.heap.size]?=XK (XE #[Xx XF s.kind,Xx XF s.Un,Xy s.at_.file,Xx XF s.at_.line,Xx XF s.at_.col] 205):=by rw[hW];exact PM _ _
 have HW:XN _:=hW.symm;have u0:XI W ⟨w.heap.size,0,XJ⟩=XK (Xx XF s.kind):=by rw[ab B];rfl
 have u1:XI W ⟨w.heap.size,1,XJ⟩=XK (Xx XF s.Un):=by rw[ab B];rfl
 have u2:XI W ⟨w.heap.size,2,XJ⟩=XK (Xy s.at_.file):=by rw[ab B];rfl
 have u3:XI W ⟨w.heap.size,3,XJ⟩=XK (Xx XF s.at_.line):=by rw[ab B];rfl
 have u4:XI W ⟨w.heap.size,4,XJ⟩=XK (Xx XF s.at_.col):=by rw[ab B];rfl
 have PW:=P.Ur kW;have Y:=JP w0 W b R S g T s l HR K y x hv hm a p H E PW hn a1 a2;have V:XN (∀q,eW l y x (a.map Ex.xs) (p.map Ex.xs) s=q->ig l y x (a.map Ex.xs,p.map Ex.xs) s=if(q.1.1==0)=XL then(if q.1.2.length<=32 then(0,a.map Ex.xs++[q.1.2],q.2++[q.1.2]) else(10,a.map Ex.xs,p.map Ex.xs)) else(q.1.1,a.map Ex.xs,p.map Ex.xs)):=by
  intro q z;subst z;rfl
 have r:XN _:=V.out _ rfl;generalize eW l y x (a.map Ex.xs) (p.map Ex.xs) s=Q at *;obtain⟨⟨q,xs⟩,t2⟩:=Q;simp only at Y r;clear hW V B;go_enter func158,ntmps158;go_upto_region 1 with fail
 rw[HW.out];go_wp2_with fail;refine Y.mono ?_;rintro e w2 ⟨d,c,rfl,a3,I,F2,ac,a6⟩;subst a3;cases z:(q==0)
 ·have az:(q != 0)=XL:=by simp[bne,z]
  have A:XN (ig l y x (a.map Ex.xs,p.map Ex.xs) s=(q,a.map Ex.xs,p.map Ex.xs)):=by show _=_;rw[r.out,z];rfl
  clear r Y u0 u1 u2 u3 u4;go_wp2;go_ret;exact⟨a,d,H,ay (by rw[A.out]),I,fun hh=>by rw[A.out]at hh;exact absurd (z.symm.trans hh) (by simp),by omega,by omega⟩
 ·have az:(q != 0)=XM:=by simp[bne,z]
  by_cases v:c.xs.length<=32
  ·have av:¬((c.xs.length:Int) > 32):=(by omega);have A:XN (ig l y x (a.map Ex.xs,p.map Ex.xs) s=(0,a.map Ex.xs++[c.xs],t2++[c.xs])):=(by show _=_;rw[r.out,z,PZ rfl,PZ v]);have aq:XN _:=ac z;clear r Y u0 u1 u2 u3 u4 ac;(go_upto_region 6 with fail);have D2:=I.ply.bag;have p3:=I.ply.cells.1;have y3:=D2.free;have a4:=D2.lt;have L:=D2.Ur ((aa.refl [] w2).alloc (XE #[Xz c.hd.ao c.xs.length c.hd.cap] 22));have a0:XN (∀j,j≠0->pB (a++[c]) d j=pB a d j):=by
    intro j o
    match j,o with
    | 0,o=>exact absurd rfl o
    | 1,_=>rfl
    | m+2,_=>rfl
   have ad:XN (∀j,j≠1->pB (a++[c]) (d++[c]) j=pB (a++[c]) d j):=by
    intro j o
    match j,o with
    | 0,_=>rfl
    | 1,o=>exact absurd rfl o
    | m+2,_=>rfl
   go_wp2_with (at_builtin;refine aD _ rfl (.tmp 23) (.tmp 25) 70 rfl i1 (Xz XJ 0 0) 24 (H 0) (dv a) underlying70 Z ai am ap rfl Qf rfl (by exact L.own 0) ⟨_,0,XJ⟩ 1 1 [Xz c.hd.ao c.xs.length c.hd.cap] rfl rfl ?e1 ?e2 Qf ?e3 ?e4 ?_)
   case e1=>intro j u o;match j,o with | 0,o=>simp at o;subst o;simp[Addr.add]
   case e2=>intro u hu;simp at hu;subst hu;rfl
   case e3=>simp only[dv];unfold maxLen;omega
   case e4=>simp only[dv];omega
   intro J f w4 ag D i;obtain⟨k4,f4,G⟩:=L.app (cs':=kI R S g l.length T (a++[c]) d (cX H 0 ⟨XK ⟨J,0,XJ⟩,f⟩)) (rows':=pB (a++[c]) d) 3 0 J f ((dv a).n+1) _ ag (mG a c) D (by simpa using i) a0.out (Xz (H 0).ao a.length (H 0).cap) rfl (by simp[kI,cX,dv]);clear ag D i L p3 y3;(go_upto_region 7 with fail);generalize hX:w4.setCell ⟨b,3,XJ⟩ (Xz (XK ⟨J,0,XJ⟩) ((dv a).n+1) f)=X at G ⊢;have DX:=G.out.1;have TX:XN _:=G.out.2.first ((aa.refl [] _).alloc _);have p4:=DX.cell 4;simp only[kI,List.getElem?_cons_succ,List.getElem?_cons_zero]at p4;have y4:=DX.free;have a5:=DX.lt;have M:=DX.Ur ((aa.refl [] X).alloc (XE #[Xz c.hd.ao c.xs.length c.hd.cap] 22));clear hX k4 f4;go_wp2_with (at_builtin;refine aD _ rfl (.tmp 33) (.tmp 35) 70 rfl i1 (Xz XJ 0 0) 24 (cX H 0 ⟨XK ⟨J,0,XJ⟩,f⟩ 1) (dv d) underlying70 Z ai am ap rfl Qf rfl (by exact M.own 1) ⟨_,0,XJ⟩ 1 1 [Xz c.hd.ao c.xs.length c.hd.cap] rfl rfl ?e1 ?e2 Qf ?e3 ?e4 ?_)
   case e1=>intro j u o;match j,o with | 0,o=>simp at o;subst o;simp[Addr.add]
   case e2=>intro u hu;simp at hu;subst hu;rfl
   case e3=>simp only[dv];unfold maxLen;omega
   case e4=>simp only[dv];omega
   intro g6 C w6 ah F k;obtain⟨k6,f6,U⟩:=M.app (cs':=kI R S g l.length T (a++[c]) (d++[c]) (cX (cX H 0 ⟨XK ⟨J,0,XJ⟩,f⟩) 1 ⟨XK ⟨g6,0,XJ⟩,C⟩)) (rows':=pB (a++[c]) (d++[c])) 4 1 g6 C ((dv d).n+1) _ ah (mG d c) F (by simpa using k) ad.out (Xz (cX H 0 ⟨XK ⟨J,0,XJ⟩,f⟩ 1).ao d.length (cX H 0 ⟨XK ⟨J,0,XJ⟩,f⟩ 1).cap) rfl (by simp[kI,cX,dv]);have T6:XN _:=aj.trans TX.out (U.out.2.first ((aa.refl [] _).alloc _));clear ah F k M p4 y4;go_wp2;go_ret;refine⟨a++[c],d++[c],_,ay (by rw[A.out]),I.turned T6.out U.out.1 (fun e t=>?_) (fun e t=>?_),fun _=>by rw[A.out];simp[aq.out],by simp;omega,by simp⟩
   ·rw[Qo]at t;rcases t with t | t
    ·exact I.ply.shs e t
    ·simp at t;subst t;exact⟨F2,v⟩
   ·rw[Qo]at t;rcases t with t | t
    ·exact I.ply.ths e t
    ·simp at t;subst t;exact⟨F2,v⟩
  ·have av:(c.xs.length:Int) > 32:=(by omega);have A:XN (ig l y x (a.map Ex.xs,p.map Ex.xs) s=(10,a.map Ex.xs,p.map Ex.xs)):=(by show _=_;rw[r.out,z,PZ rfl,PV v]);clear r Y u0 u1 u2 u3 u4;go_wp2;go_ret;exact⟨a,d,H,ay (by rw[A.out]),I,by rw[A.out];simp,by omega,by omega⟩
def PI(fin:Pl)(goal:List ByteArray)(th:List (List ByteArray)):on :=
 match th with
 | []=>(12,fin)
 | [x]=>if wD x goal=XL then cy else(12,fin)
 | _ :: _ :: _=>(11,fin)
def dM(l:List St)(vs:List ByteArray)(ms:List Bool)(fin:Pl)(goal:List ByteArray):List gY->List (List ByteArray)×List (List ByteArray)->on
 | [],S=>PI fin goal S.2
 | s :: r,S=>if((ig l vs ms S s).1==0)=XL then dM l vs ms fin goal r (ig l vs ms S s).2 else((ig l vs ms S s).1,s.at_)
def dH(l:List St)(a:Nat)(s:St)(steps:List gY):on:=dM l (rC l a) (cT l a (rC l a)) s.fin s.Um steps ([],[])
theorem Ck(a:w<f.length) :
  dM b o D i N (f.drop w) L=if((ig b o D L f[w]).1==0)=XL then dM b o D i N (f.drop (w+1)) (ig b o D L f[w]).2 else((ig b o D L f[w]).1,f[w].at_):=by
 rw[Qr a];rfl
theorem zQ(a:¬w<f.length) :
  dM b o D i N (f.drop w) L=PI i N L.2:=by
 rw[Q4 (by omega)];rfl
theorem Gx(l:List gY)(k:Nat)(a:k<l.length)(j:Nat)(d:j<5):(tS l)[k*5+j]?=(it l[k])[j]?:=by
 induction l generalizing k with
 | nil=>simp at a
 | cons s r c =>
  have e:tS (s :: r)=it s++tS r:=rfl;rw[e];cases k with
  | zero=>rw[PR (by simp[it];omega)];simp
  | succ k =>
   rw[Qb (by simp[it];omega)];have b:(k+1)*5+j-(it s).length=k*5+j:=by simp[it];omega
   rw[b,c k (by simpa using a)];rfl
theorem aE.step{h:Hd}{l:List gY}(o:aE H h (eO l))(k:Nat)(m:k<l.length) :
  ∃g,h.ao=XK ⟨g,0,XJ⟩/\l.length<=h.cap/\h.cap<=9223372036854775807/\XI H ⟨g,k*5,XJ⟩=XK (Xx XF l[k].kind)/\XI H ⟨g,k*5+1,XJ⟩=XK (Xx XF l[k].Un)/\XI H ⟨g,k*5+2,XJ⟩=XK (Xy l[k].at_.file)/\XI H ⟨g,k*5+3,XJ⟩=XK (Xx XF l[k].at_.line)/\XI H ⟨g,k*5+4,XJ⟩=XK (Xx XF l[k].at_.col):=by
 rcases o.UC with ⟨_,f,_⟩ | ⟨g,d,a,p,e,b,-⟩
 ·have:l.length=0:=f;omega
 ·have c:=fun j (i:j<5) v (n:(it l[k])[j]?=XK v)=>o.cell a (k*5+j) v ((Gx l k m j i).trans n);exact⟨g,a,e,by unfold maxLen at b;exact b,c 0 (by omega) _ rfl,c 1 (by omega) _ rfl,c 2 (by omega) _ rfl,c 3 (by omega) _ rfl,c 4 (by omega) _ rfl⟩
structure Dm(l:List St)(steps:List gY):Prop where
 len:steps.length<=1100000
 num:∀s∈steps,s.Un<=2000000
 named:∀s∈steps,(s.kind==3)=XM->s.Un<l.length
theorem GY(l:List St)(c K:Nat->Hd)(p:Hd)(a:List gY)(g:XP)(hr:cK g d T l c)(ok:dB l)(ha:w<l.length)(am:eZ g y l l.length K)(hO:aE g p (eO a))(U:Dm l a) :
  XO prog 140 #[XA (XK ⟨d,T,XJ⟩),Xx XF w,Xz (XK ⟨y,0,XJ⟩) l.length l.length,Xz p.ao a.length p.cap] g fun e b =>
   e=XH (fD (dH l w l[w] a))/\aa [] g b:=by
 have bl:=hr.lt;have be:=ok.len;have bx:=U.len;have b3:=ok.syms w ha;obtain⟨AO,ad⟩:∃AO,XN (p.ao=AO):=⟨_,rfl⟩
 rw[ad.out];obtain⟨W,hW⟩:∃W,W=g.alloc (XE #[Xx XF 0,Xy ⟨#[]⟩,Xx XF 0,Xx XF 0] 196):=⟨_,rfl⟩
 have kW:aa [] g W:=by rw[hW];exact(aa.refl [] _).alloc _
 have BF:W.heap[g.heap.size]?=XK (XE bb 196):=by rw[hW];exact PM _ _
 have HW:XN _:=hW.symm;have b2:(rC l w).length<=l.length:=yk l w l.length;clear hW;go_enter func140,ntmps140;go_upto_region 1 with fail
 rw[HW.out];go_upto_region 2 with (go_at_call 157;refine(mP d T w l c _ (by exact hr.Ur kW) ok).mono ?_;rintro e w2 ⟨a8,rfl,a6,bg,k2⟩)
 have K2:=kW.trans k2;go_wp2_with (go_at_call 148;refine(Ba d T w l c a8 (rC l w) _ (by exact hr.Ur K2) ok (by exact a6) (by omega)).mono ?_;rintro e s ⟨tb,hv,hm,rfl,A3,b0,bs,k3⟩);have K3:=K2.trans k3;have O:=(k2.trans k3).get BF (by simp);have E:AZ s d T y tb l c K (rC l w) (cT l w (rC l w)) hv hm:=⟨hr.Ur K3,ok,am.Ur K3,A3,gR _ _ _ _,by omega⟩;have I:aE s p (eO a):=hO.Uw (fun x V=>K3.block x (hO.lt V) (by simp));have P4:je s (s.alloc (XE #[XA (XK ⟨d,T,XJ⟩),Xz (XK ⟨y,0,XJ⟩) l.length l.length,XA (XK ⟨tb,0,XJ⟩),Xz XJ 0 0,Xz XJ 0 0] 247)) s.heap.size d T y l.length tb [] [] fh:=by
  refine⟨⟨⟨PM _ _,?_,fun i j _=>P0 rfl,fun i e=>by simp[fh,Hd.blk]at e⟩,by simp,by simp⟩,(aa.refl [] _).alloc _,PQ _,fun x V=>by obtain⟨i,hi⟩:=V;simp[fh,Hd.blk]at hi⟩;intro i
  match i with
  | 0=>exact Qj _ _ _ _
  | 1=>exact Qj _ _ _ _
  | m+2=>exact Qj _ _ _ _
 have bv:=ae O
 go_loopg [11] a.length (fun gk iv wr=>∃(i:Nat) (L r:List Ex) (H:Nat->Hd),i<=a.length/\gk=a.length-i/\iv=Xx XF i/\L.length<=i/\r.length<=i/\XN (dH l w l[w] a=dM l (rC l w) (cT l w (rC l w)) l[w].fin l[w].Um (a.drop i) (L.map Ex.xs,r.map Ex.xs))/\je s wr s.heap.size d T y l.length tb L r H)
 case atStart=>exact⟨0,[],[],fh,by omega,by omega,rfl,by simp,by simp,rfl,P4⟩
 case round =>
  obtain⟨i,L,r,H,hi,hg,rfl,bw,b1,hR,P⟩:=hrel;clear P4;have B:=P.kept.get O (by simp);obtain⟨t,u,z,A⟩:=cC B;have M:=aw B;have KW:=K3.trans P.kept;have az:XN _:=fun a0 a1 a2 a3=>ic (F:=g.heap.size) KW (PQ _) a0 a1 a2 a3;by_cases o:i<a.length
  ·have S:aE wr p (eO a):=I.Uw (fun x V=>P.kept.block x (I.lt V) (by simp));obtain⟨gp,ep,bc,a4,d0,d1,d2,d3,d4⟩:=S.step i o;obtain rfl:AO=XK ⟨gp,0,XJ⟩:=ad.out.symm.trans ep;have bm:gp<wr.heap.size:=S.lt (by unfold Hd.blk;rw[ep];rfl);have h1:=U.num a[i] (PT o);have h2:=U.named a[i] (PT o);have n:XN _:=hR.out.trans (Ck l (rC l w) (cT l w (rC l w)) l[w].fin l[w].Um a (L.map Ex.xs,r.map Ex.xs) i o);have PA:=Jg s wr s.heap.size d T y tb a[i] l c K (rC l w) (cT l w (rC l w)) hv hm L r H E P h2 h1 (by omega) (by omega);have ag:XN (∀b,aa [] s b->XI b ⟨gp,i*5+2,XJ⟩=XK (Xy a[i].at_.file)/\XI b ⟨gp,i*5+3,XJ⟩=XK (Xx XF a[i].at_.line)/\XI b ⟨gp,i*5+4,XJ⟩=XK (Xx XF a[i].at_.col)):=by
    intro b k;obtain⟨bf,ah,-,-,-,-,q2,q3,q4⟩:=(I.Uw (w':=b) (fun x V=>k.block x (I.lt V) (by simp))).step i o;rw[ep]at ah;cases ah
    exact⟨q2,q3,q4⟩
   clear hR ep S;generalize a[i]=st at *;obtain⟨sk,sn,Z,ac,Y⟩:=st;simp only at d0 d1 d2 d3 d4 PA ag n;generalize ig l (rC l w) (cT l w (rC l w)) (L.map Ex.xs,r.map Ex.xs) ⟨sk,sn,⟨Z,ac,Y⟩⟩=Q at *;obtain⟨q,Q2⟩:=Q;simp only at PA n;cases hq:(q==0)
   ·have a7:(q != 0)=XL:=(by simp[bne,hq]);have C:XN (dH l w l[w] a=(q,⟨Z,ac,Y⟩)):=(by show _=_;rw[n.out,PV (by rw[hq];simp)]);clear n;(go_upto_region 8 with (go_at_call 158;refine PA.mono ?_;rintro e f ⟨aq,av,H5,rfl,P5,ai,-,-⟩));obtain⟨c2,c3,c4⟩:=ag.out f P5.kept;have N:=P5.kept.get O (by simp);clear t u z A M d0 d1 d2 d3 d4 az;obtain⟨t,u,z,A⟩:=cC N;have M:=aw N;have K5:=K3.trans P5.kept;go_wp2;exact Qg (v:=XB #[Xx XF q,Xy Z,Xx XF ac,Xx XF Y]) (by simp[results,results140,go_sem,t,u,z,A]) rfl
     ⟨by rw[C.out];rfl,ic (F:=g.heap.size) K5 (PQ _) _ _ _ _⟩
   ·have a7:(q != 0)=XM:=(by simp[bne,hq]);have C:XN (dH l w l[w] a=dM l (rC l w) (cT l w (rC l w)) l[w].fin l[w].Um (a.drop (i+1)) Q2):=(by show _=_;rw[n.out,PZ hq]);clear n;go_wp2_with (go_at_call 158;refine PA.mono ?_;rintro e f ⟨aq,av,H5,rfl,P5,ai,bp,bq⟩);go_roundg (a.length-(i+1))
    case measure=>omega
    case rel=>exact⟨i+1,aq,av,H5,by omega,rfl,by go_num,by omega,by omega,by show _=_;rw[ai hq];exact C.out,P5⟩
  ·have HE:XN _:=hR.out.trans (zQ l (rC l w) (cT l w (rC l w)) l[w].fin l[w].Um a (L.map Ex.xs,r.map Ex.xs) i o);have Er:=E.Ur P.kept;clear hR;(go_upto_region 10 with (go_at_call 51;refine(aQ d T w l c _ (by exact Er.recd) ha).mono ?_;rintro e f ⟨rfl,k5⟩;unfold bW));obtain⟨X,hX⟩:∃X,X=f.alloc (XE #[Xx XF l[w].kind,Xy l[w].label,Xz (c (10+2*w)).ao l[w].Um.length (c (10+2*w)).cap,Xz (c (11+2*w)).ao l[w].Ux.length (c (11+2*w)).cap,Xy l[w].fin.file,Xx XF l[w].fin.line,Xx XF l[w].fin.col,Xx XF l[w].til] 110):=⟨_,rfl⟩
   have kX:aa [] wr X:=(by rw[hX];exact k5.alloc _);have BX:X.heap[f.heap.size]?=XK (XE #[Xx XF l[w].kind,Xy l[w].label,Xz (c (10+2*w)).ao l[w].Um.length (c (10+2*w)).cap,Xz (c (11+2*w)).ao l[w].Ux.length (c (11+2*w)).cap,Xy l[w].fin.file,Xx XF l[w].fin.line,Xx XF l[w].fin.col,Xx XF l[w].til] 110):=(by rw[hX];exact PM _ _);rw[<-hX];have PX:=P.Ur kX;have N:=kX.get B (by simp);clear hX t u z A M;obtain⟨t,u,z,A⟩:=cC N;have M:=aw N;have KX:=KW.trans kX;have m2:XI X ⟨f.heap.size,2,XJ⟩=XK (Xz (c (10+2*w)).ao l[w].Um.length (c (10+2*w)).cap):=by rw[ab BX];rfl
   have m4:XI X ⟨f.heap.size,4,XJ⟩=XK (Xy l[w].fin.file):=(by rw[ab BX];rfl);have m5:XI X ⟨f.heap.size,5,XJ⟩=XK (Xx XF l[w].fin.line):=(by rw[ab BX];rfl);have m6:XI X ⟨f.heap.size,6,XJ⟩=XK (Xx XF l[w].fin.col):=(by rw[ab BX];rfl);have p4:=PX.ply.cells.2;have bk:=PX.ply.bag.lt;rcases r with _ | ⟨x,r⟩
   ·have C:XN (dH l w l[w] a=(12,l[w].fin)):=HE.out;simp only[List.length_nil]at p4;clear HE;(go_upto_region 12 with fail);go_quiet (fail);go_wp2;exact Qg (v:=XB #[Xx XF 12,Xy l[w].fin.file,Xx XF l[w].fin.line,Xx XF l[w].fin.col]) (by simp[results,results140,go_sem,t,u,z,A]) rfl
     ⟨by rw[C.out];rfl,ic (F:=g.heap.size) (KX.drewN _) (PQ _) _ _ _ _⟩
   ·rcases r with _ | ⟨b4,r⟩
    ·have hE:dH l w l[w] a=if wD x.xs l[w].Um=XL then cy else(12,l[w].fin):=HE.out;have D:XN _:=hE;have oT:aE X (H 1) (dv [x]):=PX.ply.bag.own 1;rcases oT.UC with ⟨_,h0,_⟩ | ⟨gt,a9,et,-,a5,-⟩
     ·simp[dv]at h0
     have ct:=oT.cell et 0 (rF x) rfl;unfold rF at ct;rw[et]at p4;simp only[List.length_cons,List.length_nil]at p4;have bd:1<=(H 1).cap:=a5;have ap:=(PX.ply.ths x (by simp));have G:XN _:=fun(b:XP) (k:aa [] X b)=>uQ x.hd (c (10+2*w)) x.xs l[w].Um b (ap.1.view.Ur k) (((Er.Ur (kX.trans k)).recd.UD.syms w l[w] (PJ ha)).view) (by omega) (by omega);have HC:XN (∀b,aa [] X b->XI b ⟨s.heap.size,4,XJ⟩=XK (Xz (XK ⟨gt,0,XJ⟩) 1 (H 1).cap)/\XI b ⟨gt,0,XJ⟩=XK (Xz x.hd.ao x.xs.length x.hd.cap)/\XI b ⟨f.heap.size,2,XJ⟩=XK (Xz (c (10+2*w)).ao l[w].Um.length (c (10+2*w)).cap)):=by
      intro b k;refine⟨?_,((PX.Ur k).ply.bag.own 1).cell et 0 (rF x) rfl,?_⟩
      ·rw[<-et];exact(PX.Ur k).ply.cells.2
      ·rw[ab (k.get BX (by simp))];rfl
     clear hE HE et oT;(go_upto_region 12 with fail);cases J:wD x.xs l[w].Um
     ·have C:XN (dH l w l[w] a=(12,l[w].fin)):=(by show _=_;rw[D.out,J];rfl);rw[J]at G;clear D;go_region_held3 (fun b=>XI b ⟨s.heap.size,4,XJ⟩=XK (Xz (XK ⟨gt,0,XJ⟩) 1 (H 1).cap)/\XI b ⟨gt,0,XJ⟩=XK (Xz x.hd.ao x.xs.length x.hd.cap)/\XI b ⟨f.heap.size,2,XJ⟩=XK (Xz (c (10+2*w)).ao l[w].Um.length (c (10+2*w)).cap)) (go_keep) (first | (go_at_call 159;refine(G.out _ (by exact(aa.refl [] X).drew)).mono ?_;rintro e w6 ⟨rfl,k6⟩;obtain⟨x0,x1,x2⟩:=HC.out w6 ((aa.refl [] X).drew.trans k6)))
      all_goals
       have kk:=((aa.refl [] X).drew.trans k6);have R:=kk.get BX (by simp);have B6:=kk.get N (by simp);clear t u z A M m2 m4 m5 m6 p4 ct;obtain⟨t,u,z,A⟩:=cC B6;have M:=aw B6;have m4:XI w6 ⟨f.heap.size,4,XJ⟩=XK (Xy l[w].fin.file):=(by rw[ab R];rfl);have m5:XI w6 ⟨f.heap.size,5,XJ⟩=XK (Xx XF l[w].fin.line):=(by rw[ab R];rfl);have m6:XI w6 ⟨f.heap.size,6,XJ⟩=XK (Xx XF l[w].fin.col):=(by rw[ab R];rfl);go_wp2;exact Qg (v:=XB #[Xx XF 12,Xy l[w].fin.file,Xx XF l[w].fin.line,Xx XF l[w].fin.col]) (by simp[results,results140,go_sem,t,u,z,A]) rfl ⟨by rw[C.out];rfl,ic (F:=g.heap.size) (KX.trans kk) (PQ _) _ _ _ _⟩
     ·have C:XN (dH l w l[w] a=cy):=(by show _=_;rw[D.out,J];rfl);rw[J]at G;clear D;go_region_held3 (fun b=>XI b ⟨s.heap.size,4,XJ⟩=XK (Xz (XK ⟨gt,0,XJ⟩) 1 (H 1).cap)/\XI b ⟨gt,0,XJ⟩=XK (Xz x.hd.ao x.xs.length x.hd.cap)/\XI b ⟨f.heap.size,2,XJ⟩=XK (Xz (c (10+2*w)).ao l[w].Um.length (c (10+2*w)).cap)) (go_keep) (first | (go_at_call 159;refine(G.out _ (by exact(aa.refl [] X).drew)).mono ?_;rintro e w6 ⟨rfl,k6⟩;obtain⟨x0,x1,x2⟩:=HC.out w6 ((aa.refl [] X).drew.trans k6)))
      all_goals
       have kk:=((aa.refl [] X).drew.trans k6);have B6:=kk.get N (by simp);clear t u z A M m2 m4 m5 m6 p4 ct;obtain⟨t,u,z,A⟩:=cC B6;have M:=aw B6;go_wp2;exact Qg (v:=XB #[Xx XF 0,Xy ⟨#[]⟩,Xx XF 0,Xx XF 0]) (by simp[results,results140,go_sem,t,u,z,A]) rfl ⟨by rw[C.out];rfl,ic (F:=g.heap.size) (KX.trans kk) (PQ _) _ _ _ _⟩
    ·have C:XN (dH l w l[w] a=(11,l[w].fin)):=HE.out;have bo:((r.length:Int)+1+1 > 1):=(by omega);simp only[List.length_cons]at p4;clear HE;go_wp2;exact Qg (v:=XB #[Xx XF 11,Xy l[w].fin.file,Xx XF l[w].fin.line,Xx XF l[w].fin.col]) (by simp[results,results140,go_sem,t,u,z,A]) rfl
      ⟨by rw[C.out];rfl,ic (F:=g.heap.size) KX (PQ _) _ _ _ _⟩
structure gX(w:XP)(b o:Nat)(l:List St)(H:Nat->Hd)(g:Nat)(L:List Rw):Prop where
 recd:cK w b o l H
 cell:∃arr t,w.heap[b]?=XK (XE arr t)/\arr[o+2]?=XK (Xz (XK ⟨g,0,XJ⟩) L.length L.length)
 arr:w.heap[g]?=XK (XE (ft L).toArray 69)
theorem gX.Ur(h:gX H n k l a S x)(c:aa [] H I):gX I n k l a S x:=by
 obtain⟨b,t,d,e⟩:=h.cell;exact⟨h.recd.Ur c,⟨b,t,c.get d (by simp),e⟩,c.get h.arr (by simp)⟩
theorem gX.at2(h:gX H n k l a S x):XI H ⟨n,k+2,XJ⟩=XK (Xz (XK ⟨S,0,XJ⟩) x.length x.length):=by
 obtain⟨b,t,c,d⟩:=h.cell;rw[ab c];exact d
theorem gX.row(h:gX H n k l a S x)(b:Nat)(e:b<x.length) :
  XI H ⟨S,b*6,XJ⟩=XK (Xy x[b].label)/\XI H ⟨S,b*6+1,XJ⟩=XK (Xx XF x[b].Us)/\XI H ⟨S,b*6+2,XJ⟩=XK (Xx XF x[b].why)/\XI H ⟨S,b*6+3,XJ⟩=XK (Xy x[b].at_.file)/\XI H ⟨S,b*6+4,XJ⟩=XK (Xx XF x[b].at_.line)/\XI H ⟨S,b*6+5,XJ⟩=XK (Xx XF x[b].at_.col):=by
 have c:=fun j (d:j<6) v (f:(ii x[b])[j]?=XK v)=>(ab h.arr (b*6+j)).trans ((by simp only[List.getElem?_toArray];exact(xw x b e j d).trans f));exact⟨c 0 (by omega) _ rfl,c 1 (by omega) _ rfl,c 2 (by omega) _ rfl,c 3 (by omega) _ rfl,c 4 (by omega) _ rfl,c 5 (by omega) _ rfl⟩
def jy(L:List Rw)(n:Nat):Int:=(L.getD n lz).Us
set_option maxRecDepth 512
theorem AB(l:List St)(H:Nat->Hd)(g:Nat)(L:List Rw)(d:XP)(h:gX d T y l H g L) :
  XO prog 142 #[XA (XK ⟨T,y,XJ⟩),Xx XF w] d fun e f=>e=XH (Xx XF (jy L w))/\f=d:=by
 have i:=h.at2;by_cases a:w<L.length
 ·have c:XN (jy L w=L[w].Us):=by show _=_;unfold jy;rw[PK,PJ a];rfl
  obtain⟨-,j,-,-,-,-⟩:=h.row w a;have b:¬((w:Int) ≥ L.length):=by omega
  go_enter func142,ntmps142;go_wp2;go_ret;exact⟨ay (by rw[c.out]),rfl⟩
 ·have c:XN (jy L w=0):=by show _=_;unfold jy;rw[PK,QP (by omega)];rfl
  have b:(w:Int) ≥ L.length:=by omega
  go_enter func142,ntmps142;go_wp2;go_ret;exact⟨ay (by rw[c.out]),rfl⟩
def ub(steps:List gY):Option Nat:=(List.range steps.length).find? (fun i=>match steps[i]? with | some s=>s.kind==1 | none=>XM)
theorem p6(j:Hd)(a:List gY)(w:XP)(v:aE w j (eO a))(C:a.length<=1073741824) :
  XO prog 139 #[Xz j.ao a.length j.cap] w fun e y=>e=XH (Xx XF (eT (ub a)))/\y=w:=by
 obtain⟨l,d⟩:∃l,XN (j.ao=l):=⟨_,rfl⟩
 rw[d.out];go_enter func139,ntmps139;go_wp2
 go_loopg [3] a.length (fun g i wr=>∃k:Nat,k<=a.length/\g=a.length-k/\i=Xx XF k/\XN (∀i,i<k->(match a[i]? with | some s=>s.kind==1 | none=>XM)=XM)/\wr=w)
 case atStart=>exact⟨0,by omega,by omega,rfl,fun i r=>by omega,rfl⟩
 case round =>
  obtain⟨k,B,A,rfl,b,rfl⟩:=hrel;by_cases c:k<a.length
  ·obtain⟨u,p,o,n,z,-⟩:=v.step k c;obtain rfl:l=XK ⟨u,0,XJ⟩:=d.out.symm.trans p;clear p;have f:XN (a[k]?=XK a[k]):=PJ c;generalize a[k]=x at *;cases q:(x.kind==1)
   ·have t:XN (∀i,i<k+1->(match a[i]? with | some s=>s.kind==1 | none=>XM)=XM):=by
     intro i r;by_cases e:i=k
     ·subst e;rw[f.out];exact q
     ·exact b.out i (by omega)
    clear f b;go_wp2;go_roundg (a.length-(k+1))
    case measure=>omega
    case rel=>exact⟨k+1,by omega,rfl,by go_num,t,rfl⟩
   ·have m:XN (ub a=XK k):=dN c (by rw[f.out];exact q) b.out;clear f b;go_wp2;go_ret;exact⟨ay (by rw[m.out];rfl),rfl⟩
  ·have m:XN (ub a=XJ):=eJ (fun i r=>b.out i (by omega));clear b;go_wp2;go_ret;exact⟨ay (by rw[m.out];rfl),rfl⟩
def yl(v:Int):Bool:=v==2||v==3||v==4
def jE(L:List Rw)(steps:List gY):Bool:=steps.all (fun s=>!(s.kind==2) || !(yl (jy L s.Un)))
theorem LZ(c:w<f.length)(a:(f[w].kind==2)=XL)(b:yl (jy M f[w].Un)=XL):jE M f=XM:=by
 cases e:jE M f
 ·rfl
 ·unfold jE at e;rw[QR]at e;have:=e _ (PT c);rw[a,b]at this;cases this
theorem Jw(h:∀k (a:k<f.length),(!(f[k].kind==2) || !(yl (jy M f[k].Un)))=XL):jE M f=XL:=by
 unfold jE;rw[QR];intro x b;obtain⟨k,a,rfl⟩:=QN b;exact h k a
theorem Jv(H:Nat->Hd)(g:Nat)(L:List Rw)(u:Hd)(a:List gY)(w:XP)(h:gX w d T b H g L)(M:aE w u (eO a))(N:a.length<=1100000) :
  XO prog 141 #[XA (XK ⟨d,T,XJ⟩),Xz u.ao a.length u.cap] w fun e O=>e=XH (XC (jE L a))/\O=w:=by
 obtain⟨y,q⟩:∃y,XN (u.ao=y):=⟨_,rfl⟩
 rw[q.out];go_enter func141,ntmps141;go_wp2
 go_loopg [5] a.length (fun g i wr=>∃k:Nat,k<=a.length/\g=a.length-k/\i=Xx XF k/\XN (∀i (p:i<a.length),i<k->(!(a[i].kind==2) || !(yl (jy L a[i].Un)))=XL)/\wr=w)
 case atStart=>exact⟨0,by omega,by omega,rfl,fun i _ p=>by omega,rfl⟩
 case round =>
  obtain⟨k,S,R,rfl,l,rfl⟩:=hrel;by_cases s:k<a.length
  ·obtain⟨I,F,E,A,P,Q,-⟩:=M.step k s;obtain rfl:y=XK ⟨I,0,XJ⟩:=q.out.symm.trans F;clear F;have f:XN ((!(a[k].kind==2) || !(yl (jy L a[k].Un)))=XL->∀i (p:i<a.length),i<k+1->(!(a[i].kind==2) || !(yl (jy L a[i].Un)))=XL):=by
    intro J i p K;by_cases e:i=k
    ·subst e;exact J
    ·exact l.out i p (by omega)
   have c:XN _:=LZ L a k s;have r:=AB d T a[k].Un b H g L wr h;clear l;generalize a[k]=x at *;cases o:(x.kind==2)
   ·have C:(x.kind != 2)=XL:=(by simp[bne,o]);have z:XN _:=(f.out (by rw[o];rfl));clear f c r;go_wp2;go_roundg (a.length-(k+1))
    case measure=>omega
    case rel=>exact⟨k+1,by omega,rfl,by go_num,z.out,rfl⟩
   ·have C:(x.kind != 2)=XM:=(by simp[bne,o]);have m:XN (∀v,yl v=(v==2||v==3||v==4)):=fun _=>rfl;generalize jy L x.Un=V at *;cases t:(V==2)
    ·cases B:(V==3)
     ·cases G:(V==4)
      ·have z:XN _:=f.out (by rw[m.out,t,B,G];simp);clear f c;go_wp2_with (go_at_call 142;refine r.mono ?_;rintro e D ⟨rfl,j⟩;rw[j]);go_roundg (a.length-(k+1))
       case measure=>omega
       case rel=>exact⟨k+1,by omega,rfl,by go_num,z.out,rfl⟩
      ·have n:XN _:=c.out o (by rw[m.out,t,B,G];rfl);clear f c;go_wp2_with (go_at_call 142;refine r.mono ?_;rintro e D ⟨rfl,j⟩;rw[j]);go_ret;exact⟨aH n.out.symm,rfl⟩
     ·have n:XN _:=c.out o (by rw[m.out,t,B];rfl);clear f c;go_wp2_with (go_at_call 142;refine r.mono ?_;rintro e D ⟨rfl,j⟩;rw[j]);go_ret;exact⟨aH n.out.symm,rfl⟩
    ·have n:XN _:=c.out o (by rw[m.out,t];rfl);clear f c;go_wp2_with (go_at_call 142;refine r.mono ?_;rintro e D ⟨rfl,j⟩;rw[j]);go_ret;exact⟨aH n.out.symm,rfl⟩
  ·have n:XN (jE L a=XL):=Jw L a (fun i p=>l.out i p (by omega));clear l;go_wp2;go_ret;exact⟨aH n.out.symm,rfl⟩
theorem uS{t:ByteArray}(h:ez l t n=XK k):k<l.length:=by
 unfold ez at h;have:=Qm h;simpa using this
def Di(l:List St)(s:gY):Prop:=s.Un<=1020000/\((s.kind==3)=XM->s.Un<l.length)
theorem FD(j:0<b.length)(k:b.length<=10000)(d:List (ByteArray×Pl))(a:List gY)(h:∀s∈a,Di b s)(N:Nat)(g:a.length<=N) :
  (∀s∈(cO b y i d a).1,Di b s)/\(cO b y i d a).1.length<=N+d.length:=by
 induction d generalizing a N with
 | nil =>
  rw[cO];split
  ·exact⟨by simp,by simp⟩
  ·exact⟨h,by simpa using g⟩
 | cons x r f =>
  obtain⟨t,p⟩:=x;rw[cO];split
  ·have:=f (a++[⟨1,0,p⟩]) (by intro s c;simp at c;rcases c with c | rfl;exact h s c;exact⟨by simp,fun _=>j⟩) (N+1) (by simp;omega);exact⟨this.1,by have:=this.2;simp;omega⟩
  ·split
   ·exact⟨by simp,by simp⟩
   ·next n l =>
    have e:=uS l;have:=f (a++[⟨2,n,p⟩]) (by intro s c;simp at c;rcases c with c | rfl;exact h s c;exact⟨by simp only;omega,fun _=>e⟩) (N+1) (by simp;omega);exact⟨this.1,by have:=this.2;simp;omega⟩
structure uh(l:List St)(c:iR):Prop where
 names:∀n∈c.names,n<l.length
 Uz:∀n∈c.Uz,n<=1020000
 steps:∀s∈c.steps,Di l s
theorem uh.letter{c:iR}(g:uh l c)(h:fB c n)(f:0<l.length)(i:l.length<=10000)(m:n<=1020000)(j:Nat)(p:Pl):uh l (bU c j p).2:=by
 have k:=h.steps;unfold bU;split
 ·unfold gC dC;split
  ·next b =>
   refine⟨g.names,g.Uz,?_⟩;intro s a;simp at a;rcases a with a | rfl
   ·exact g.steps s a
   ·have:=g.names _ (PT b);rw[PJ b];exact⟨by simp only[Option.getD_some];omega,fun _=>this⟩
  ·split
   ·next b =>
    refine⟨g.names,g.Uz,?_⟩;intro s a;simp at a;rcases a with a | rfl
    ·exact g.steps s a
    ·have:=g.Uz _ (PT b);rw[PJ b];exact⟨this,fun e=>by simp at e⟩
   ·exact⟨g.names,g.Uz,g.steps⟩
 ·split
  ·unfold iO;split <;> exact⟨g.names,g.Uz,g.steps⟩
  ·split
   ·refine⟨g.names,?_,g.steps⟩;intro x d;simp at d;rcases d with d | rfl
    ·exact g.Uz x d
    ·omega
   ·split
    ·refine⟨g.names,g.Uz,?_⟩;intro s a;simp[dC]at a;rcases a with a | rfl
     ·exact g.steps s a
     ·exact⟨by simp,fun _=>f⟩
    ·exact g
theorem xK(m:0<l.length)(b:l.length<=10000)(t:ByteArray)(p:Pl)(f:Nat):∀(j:Nat) (c:iR) (N:Nat),uh l c->fB c (N+j)->j<=t.size->N+t.size<=1020000->uh l (eH t p f j c).2:=by
 induction f with
 | zero=>intro j c N g h k e;exact g
 | succ f o =>
  intro j c N g h k e;rw[eH];split
  ·next n =>
   have i:=h.letter (ar t j).toNat { p with col:=p.col+j };have d:=g.letter h m b (by omega) (ar t j).toNat { p with col:=p.col+j };split
   ·exact o (j+1) _ N d (by rw[<-Sj];exact i) (by omega) e
   ·exact d
  ·exact g
theorem xM(j:0<l.length)(d:l.length<=10000)(a:List (ByteArray×Pl)):∀(c:iR) (N:Nat),uh l c->fB c N->N+gU a<=1020000->uh l (jI a c).2/\fB (jI a c).2 1020000:=by
 induction a with
 | nil=>intro c N g h b;exact⟨g,h.mono (by simp[gU]at b;omega)⟩
 | cons x r k =>
  intro c N g h b;obtain⟨t,p⟩:=x;have i:gU ((t,p) :: r)=t.size+gU r:=by simp[gU]
  rw[i]at b;have e:uh l (js t p c).2:=xK j d t p _ 0 c N g h (Qx _) (by omega);have f:=vW t p h;rw[jI];split
  ·exact k _ (N+t.size) e f (by omega)
  ·exact⟨e,f.mono (by omega)⟩
theorem Bf(e:List (ByteArray×Pl))(d:Nat)(c:List Nat)(h:∀n∈c,n<b.length):∀n∈(ci b y i d e c).2,n<b.length:=by
 induction e generalizing d c with
 | nil=>exact h
 | cons x r g =>
  obtain⟨t,p⟩:=x;rw[ci];split
  ·exact h
  ·split
   ·exact h
   ·next n f =>
    split
    ·exact h
    ·exact g (d+1) (c++[n]) (by intro m a;simp at a;rcases a with a | rfl;exact h m a;exact uS f)
theorem Jq(e:dB b)(p:w<b.length)(l:mV b[w]):Dm b (eB b w b[w]).1:=by
 have m:0<b.length:=by omega
 have r:=e.prfs w p;have t:=l.size;have c:(∀s∈(eB b w b[w]).1,Di b s)/\(eB b w b[w]).1.length<=1100000:=by
  unfold eB;split
  ·unfold gZ qK;have g:=yx b w b[w] e.len r;have i:uh b ⟨(ci b w b[w].fin 1 (b[w].Ux.drop 1) (al b w)).2,[],[],0,XM⟩:=⟨Bf b w b[w].fin _ 1 _ (fun n q=>sM q),by simp,by simp⟩;generalize ci b w b[w].fin 1 (b[w].Ux.drop 1) (al b w)=o at *;obtain⟨⟨d,f⟩,k⟩:=o;simp only at g i ⊢;have a:uh b (Cf f (b[w].Ux.drop d) ⟨k,[],[],0,XM⟩).2/\fB (Cf f (b[w].Ux.drop d) ⟨k,[],[],0,XM⟩).2 1020000:=by
    unfold Cf;split
    ·exact xM m e.len _ _ 20000 i g (by have:=Am b[w].Ux d;omega)
    ·exact⟨i,g.mono (by omega)⟩
   generalize Cf f (b[w].Ux.drop d) ⟨k,[],[],0,XM⟩=R at *;unfold oK;split
   ·split
    ·split
     ·exact⟨by simp,by simp⟩
     ·exact⟨a.1.steps,by have:=a.2.steps;simp only;omega⟩
    ·exact⟨by simp,by simp⟩
   ·exact⟨by simp,by simp⟩
  ·have:=FD b w b[w].fin m e.len b[w].Ux [] (by simp) 0 (by simp);exact⟨this.1,by have:=this.2;omega⟩
 exact⟨c.2,fun s j=>by have:=(c.1 s j).1;omega,fun s j=>(c.1 s j).2⟩
end Go.Proofs.YtnbalopedcgpcaaGreat
