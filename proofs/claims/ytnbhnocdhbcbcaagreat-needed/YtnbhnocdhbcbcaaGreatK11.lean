import Derived.Test.YtnbhnocdhbcbcaaGreatK10
namespace Go.Proofs.YtnbhnocdhbcbcaaGreat
open Go.RowKit Tryz
open Value IntKind Ending
set_option maxHeartbeats 0
variable{a y6:World}{i z7 z5:Nat}{y2:Nat->Hd}{I:List St}{z6:List Rw}(y3 y4:World)(N o H D l:Nat)(b:kD)(w:List St)(x s:Nat->Hd)(d:Xt)(k:List Bool)(y9:Hd)(zt:Nat)(z4:List Rw)(L:Hd)(n T:List Ex)(g:Nat->Hd)(y5:Pl)(ya:Xt)(f:List kD)(M:List Rw)(S:World)(y7:List Xt×List Xt)(y:Nat)
def gI(l:List St)(vs:Xt)(ms:List Bool)(sh th:List Xt)(s:kD):(Int×Xt)×List Xt :=
 if(s.XU==3)=true then(if s.XA<sh.length then((0,sh.getD s.XA []),th) else((5,[]),th))
 else if nJ l s.XA=true then(gJ l s.XA vs ms th,th.take (th.length-(aP l s.XA).length))
 else((0,(l.getD s.XA zu).Xz),th)
set_option maxRecDepth 100000
theorem N7(E:EU y3 o H D l w x s d k y9 L)(P:mW y3 y4 N o H D w.length l n T g)(hn:(b.XU==3)=false->b.XA<w.length)(a2:b.XA<=2000000)(af:T.length<=2000000) :
  Calls prog 240 #[pointer (some ⟨N,0,none⟩),agg #[int i64 b.XU,int i64 b.XA,string b.at_.XZ,int i64 b.at_.X0,int i64 b.at_.X3]] y4 fun e A=>∃(U:List Ex) (t:Ex),
   e=returned (tuple #[slice t.hd.ao t.xs.length t.hd.cap,int i64 (gI w d k (n.map Ex.xs) (T.map Ex.xs) b).1.1])/\t.xs=(gI w d k (n.map Ex.xs) (T.map Ex.xs) b).1.2/\mW y3 A N o H D w.length l n U g/\sA A N g t.hd t.xs /\
   (((gI w d k (n.map Ex.xs) (T.map Ex.xs) b).1.1==0)=true->U.map Ex.xs=(gI w d k (n.map Ex.xs) (T.map Ex.xs) b).2)/\U.length<=T.length:=by
 obtain⟨W,hW⟩:∃W,W=y4.alloc (.cells #[int i64 b.XU,int i64 b.XA,string b.at_.XZ,int i64 b.at_.X0,int i64 b.at_.X3] 174):=⟨_,rfl⟩
 have kW:=fI hW.symm;have B:=f9 hW.symm;have HW:Xr _:=hW.symm;obtain⟨u0,u1,-⟩:=od B;have p:=P.XE kW;have EW:=E.XE p.XR;obtain⟨p0,p1,p2⟩:=p.ply.ctx.cells;obtain⟨p3,p4⟩:=p.ply.cells;have a0:=p.ply.bag.lt;have a3:=aj B;clear hW;cases hk:(b.XU==3)
 ·have j:=hn hk;have J:Xr (gI w d k (n.map Ex.xs) (T.map Ex.xs) b=if nJ w b.XA=true then(gJ w b.XA d k (T.map Ex.xs),(T.map Ex.xs).take (T.length-(aP w b.XA).length)) else((0,w[b.XA].Xz),T.map Ex.xs)):=by
   show _=_;unfold gI;rw[hk,TT,TT,Bk w _ j];rfl
  have Z:Xr (∀A,ae [] W A->A.cell? ⟨N,0,none⟩=some (pointer (some ⟨o,H,none⟩))/\A.cell? ⟨y4.heap.size,1,none⟩=some (int i64 b.XA)):=by
   intro A al;refine⟨(p.XE al).ply.ctx.cells.1,?_⟩;rw[ah (al.get B (by simp))];rfl
  have ac:Xr _:=fun(f:World) (F:ae [] W f)=>bF o H b.XA w x f (EW.XE F).recd j;have HZ:Xr (∀f,ae [] (W.alloc (.cells #[int i64 0,string ⟨#[]⟩,slice none 0 0,slice none 0 0,string ⟨#[]⟩,int i64 0,int i64 0,int i64 0] 158)).drew f->f.cell? ⟨W.heap.size,0,none⟩=some (int i64 0)/\f.cell? ⟨W.heap.size,1,none⟩=some (string ⟨#[]⟩)/\f.cell? ⟨W.heap.size,2,none⟩=some (slice none 0 0)/\f.cell? ⟨W.heap.size,3,none⟩=some (slice none 0 0)/\f.cell? ⟨W.heap.size,4,none⟩=some (string ⟨#[]⟩)/\f.cell? ⟨W.heap.size,5,none⟩=some (int i64 0)/\f.cell? ⟨W.heap.size,6,none⟩=some (int i64 0)/\f.cell? ⟨W.heap.size,7,none⟩=some (int i64 0)/\∀ap,f.frozen? ⟨W.heap.size,ap,none⟩=false):=by
   intro f al;have q:=al.get (show(W.alloc (.cells #[int i64 0,string ⟨#[]⟩,slice none 0 0,slice none 0 0,string ⟨#[]⟩,int i64 0,int i64 0,int i64 0] 158)).drew.heap[W.heap.size]?=_ from Tu _ _) (by simp);refine⟨?_,?_,?_,?_,?_,?_,?_,?_,fun ap=>am q ap⟩ <;> (rw[ah q];rfl)
  have az:W.heap.size≠N:=by omega
  have aS:W.heap.size≠y4.heap.size:=by omega
  clear p1 p2 p3 p4;go_enter func240,ntmps240;go_upto_region 1 with fail
  rw[HW.o];go_upto_region 5 with fail
  go_region_held3 (fun A=>A.cell? ⟨N,0,none⟩=some (pointer (some ⟨o,H,none⟩))/\A.cell? ⟨y4.heap.size,1,none⟩=some (int i64 b.XA)) (go_keep) (first | (go_at_call 98;refine(ac.o _ (by exact(ae.refl [] W).drew)).mono ?_;rintro e f ⟨rfl,F⟩;obtain⟨x0,x1⟩:=Z.o f (bR.drew.trans F);unfold fS) | (go_at_call 98;refine(ac.o _ (by exact((ae.refl [] W).alloc _).drew)).mono ?_;rintro e f ⟨rfl,F⟩;obtain⟨x0,x1⟩:=Z.o f (((ae.refl [] W).alloc _).drew.trans F);obtain⟨q0,q1,q2,q3,q4,q5,q6,q7,qf⟩:=HZ.o f F;unfold fS))
  ·obtain⟨X,C⟩:∃X,X=f.alloc (.cells #[int i64 w[b.XA].XU,string w[b.XA].XV,slice (x (10+2*b.XA)).ao w[b.XA].Xz.length (x (10+2*b.XA)).cap,slice (x (11+2*b.XA)).ao w[b.XA].XK.length (x (11+2*b.XA)).cap,string w[b.XA].XY.XZ,int i64 w[b.XA].XY.X0,int i64 w[b.XA].XY.X3,int i64 w[b.XA].til] 158):=⟨_,rfl⟩
   have G:ae [] W X:=(by rw[C];exact(bR.drew.trans F).alloc _);have BX:=f9 C.symm;rw[<-C];clear C x0 x1 u0 u1 p0;obtain⟨m0,m1,m2,m3,m4,m5,m6,m7⟩:=wt BX;have PX:=p.XE G;obtain⟨x0,x1⟩:=Z.o X G;have c:Xr _:=Bq w b.XA j;cases m:oB w[b.XA].XU
   ·have a:Xr (gI w d k (n.map Ex.xs) (T.map Ex.xs) b=((0,w[b.XA].Xz),T.map Ex.xs)):=(by show _=_;rw[J.o,c.o,m];rfl);clear J c;(go_upto_region 8 with (go_at_call 161;refine(dB w[b.XA].XU _ _ _ _ _ _ _ _).mono ?_;rintro e Y ⟨rfl,z⟩;have K:=z.get BX (by simp)));obtain⟨-,-,an,-⟩:=wt K;have I:=E.recd.XQ.syms b.XA w[b.XA] (Tn j);have kk:=(G.trans z);have r:=p.XE kk;clear m0 m1 m2 m3 m4 m5 m6 m7;go_wp2;exact Tz (v:=tuple #[slice (x (10+2*b.XA)).ao w[b.XA].Xz.length (x (10+2*b.XA)).cap,int i64 0]) (by simp[results,results240,go_sem]) rfl
     ⟨T,⟨x (10+2*b.XA),w[b.XA].Xz⟩,by rw[a.o],by rw[a.o],r,⟨I.view.XE r.XR,fun ar S=>⟨Tw (I.lt S) r.XR.size,by have:=I.lt S;have:=P.hb;omega,fun L=>by have:=P.hin ar L;have:=I.lt S;omega⟩⟩,fun _=>by rw[a.o],Tq _⟩
   ·have a:Xr (gI w d k (n.map Ex.xs) (T.map Ex.xs) b=(gJ w b.XA d k (T.map Ex.xs),(T.map Ex.xs).take (T.length-(aP w b.XA).length))):=(by show _=_;rw[J.o,c.o,m];rfl);have O:nJ w b.XA=true:=(by rw[c.o,m]);clear J c;(go_upto_region 7 with (go_at_call 161;refine(dB w[b.XA].XU _ _ _ _ _ _ _ _).mono ?_;rintro e Y ⟨rfl,z⟩));obtain⟨y0,y1⟩:=Z.o Y (G.trans z);have r:=PX.XE z;clear m0 m1 m2 m3 m4 m5 m6 m7;go_wp2_with fail;refine(zG y3 Y N o H D l b.XA w x s d k y9 L n T g E r j O af).mono ?_;rintro e w6 ⟨V,i,rfl,y,P6,F6,R,Q⟩;have M:Xr _:=y;clear y;go_wp2;exact Tz (v:=tuple #[slice i.hd.ao i.xs.length i.hd.cap,int i64 (gJ w b.XA d k (T.map Ex.xs)).1]) (by simp[results,results240,go_sem]) rfl
     ⟨V,i,by rw[a.o],by rw[a.o];exact M.o,P6,F6,fun hh=>by rw[a.o]at hh ⊢;rw[R hh,WG],Q⟩
  ·obtain⟨X,C⟩:∃X,X=(((((((f.setCell ⟨W.heap.size,0,none⟩ (int i64 w[b.XA].XU)).setCell ⟨W.heap.size,1,none⟩ (string w[b.XA].XV)).setCell ⟨W.heap.size,2,none⟩ (slice (x (10+2*b.XA)).ao w[b.XA].Xz.length (x (10+2*b.XA)).cap)).setCell ⟨W.heap.size,3,none⟩ (slice (x (11+2*b.XA)).ao w[b.XA].XK.length (x (11+2*b.XA)).cap)).setCell ⟨W.heap.size,4,none⟩ (string w[b.XA].XY.XZ)).setCell ⟨W.heap.size,5,none⟩ (int i64 w[b.XA].XY.X0)).setCell ⟨W.heap.size,6,none⟩ (int i64 w[b.XA].XY.X3)).setCell ⟨W.heap.size,7,none⟩ (int i64 w[b.XA].til):=⟨_,rfl⟩
   have ag:=(((ae.refl [] W).alloc _).drew.trans F);have ai:=F.get (show(W.alloc (.cells #[int i64 0,string ⟨#[]⟩,slice none 0 0,slice none 0 0,string ⟨#[]⟩,int i64 0,int i64 0,int i64 0] 158)).drew.heap[W.heap.size]?=_ from Tu _ _) (by simp);have G:ae [] W X:=(by rw[C];exact(((((((ag.sr1 (Tq _) _).sr1 (Tq _) _).sr1 (Tq _) _).sr1 (Tq _) _).sr1 (Tq _) _).sr1 (Tq _) _).sr1 (Tq _) _).sr1 (Tq _) _);have BX:X.heap[W.heap.size]?=some (.cells #[int i64 w[b.XA].XU,string w[b.XA].XV,slice (x (10+2*b.XA)).ao w[b.XA].Xz.length (x (10+2*b.XA)).cap,slice (x (11+2*b.XA)).ao w[b.XA].XK.length (x (11+2*b.XA)).cap,string w[b.XA].XY.XZ,int i64 w[b.XA].XY.X0,int i64 w[b.XA].XY.X3,int i64 w[b.XA].til] 158):=by
    rw[C,ab (ab (ab (ab (ab (ab (ab (ab ai _ _) _ _) _ _) _ _) _ _) _ _) _ _)];rfl
   rw[<-C];clear C x0 x1 u0 u1 p0 q0 q1 q2 q3 q4 q5 q6 q7 qf ag ai;obtain⟨m0,m1,m2,m3,m4,m5,m6,m7⟩:=wt BX;have PX:=p.XE G;obtain⟨x0,x1⟩:=Z.o X G;have c:Xr _:=Bq w b.XA j;cases m:oB w[b.XA].XU
   ·have a:Xr (gI w d k (n.map Ex.xs) (T.map Ex.xs) b=((0,w[b.XA].Xz),T.map Ex.xs)):=(by show _=_;rw[J.o,c.o,m];rfl);clear J c;(go_upto_region 8 with (go_at_call 161;refine(dB w[b.XA].XU _ _ _ _ _ _ _ _).mono ?_;rintro e Y ⟨rfl,z⟩;have K:=z.get BX (by simp)));obtain⟨-,-,an,-⟩:=wt K;have I:=E.recd.XQ.syms b.XA w[b.XA] (Tn j);have kk:=(G.trans z);have r:=p.XE kk;clear m0 m1 m2 m3 m4 m5 m6 m7;go_wp2;exact Tz (v:=tuple #[slice (x (10+2*b.XA)).ao w[b.XA].Xz.length (x (10+2*b.XA)).cap,int i64 0]) (by simp[results,results240,go_sem]) rfl
     ⟨T,⟨x (10+2*b.XA),w[b.XA].Xz⟩,by rw[a.o],by rw[a.o],r,⟨I.view.XE r.XR,fun ar S=>⟨Tw (I.lt S) r.XR.size,by have:=I.lt S;have:=P.hb;omega,fun L=>by have:=P.hin ar L;have:=I.lt S;omega⟩⟩,fun _=>by rw[a.o],Tq _⟩
   ·have a:Xr (gI w d k (n.map Ex.xs) (T.map Ex.xs) b=(gJ w b.XA d k (T.map Ex.xs),(T.map Ex.xs).take (T.length-(aP w b.XA).length))):=(by show _=_;rw[J.o,c.o,m];rfl);have O:nJ w b.XA=true:=(by rw[c.o,m]);clear J c;(go_upto_region 7 with (go_at_call 161;refine(dB w[b.XA].XU _ _ _ _ _ _ _ _).mono ?_;rintro e Y ⟨rfl,z⟩));obtain⟨y0,y1⟩:=Z.o Y (G.trans z);have r:=PX.XE z;clear m0 m1 m2 m3 m4 m5 m6 m7;go_wp2_with fail;refine(zG y3 Y N o H D l b.XA w x s d k y9 L n T g E r j O af).mono ?_;rintro e w6 ⟨V,i,rfl,y,P6,F6,R,Q⟩;have M:Xr _:=y;clear y;go_wp2;exact Tz (v:=tuple #[slice i.hd.ao i.xs.length i.hd.cap,int i64 (gJ w b.XA d k (T.map Ex.xs)).1]) (by simp[results,results240,go_sem]) rfl
     ⟨V,i,by rw[a.o],by rw[a.o];exact M.o,P6,F6,fun hh=>by rw[a.o]at hh ⊢;rw[R hh,WG],Q⟩
 ·have a1:decide ((b.XA:Int)<0)=false:=by simp
  by_cases u:b.XA<n.length
  ·have a:Xr (gI w d k (n.map Ex.xs) (T.map Ex.xs) b=((0,n[b.XA].xs),T.map Ex.xs)):=by
    show _=_;unfold gI;rw[hk,Tr rfl,TT,Tr u,To];simp[u]
   have ax:(b.XA:Int)<n.length:=(by omega);have oS:aB W (g 0) (ii n):=p.ply.bag.X9 0;rcases oS.XP with ⟨_,h0,_⟩ | ⟨gs,av,es,-,aT,-⟩
   ·have:n.length=0:=h0;omega
   have cs:=oS.cell es b.XA (xx n[b.XA]) (tT n b.XA u);have ad:=(p.ply.shs n[b.XA] (TP u)).1;rw[es]at p3;unfold xx at cs;generalize n[b.XA]=t at *;clear p0 p1 p2 p4 oS es;go_enter func240,ntmps240;(go_upto_region 1 with fail);rw[HW.o];(go_upto_region 2 with fail);go_quiet (fail);(go_upto_region 4 with fail);go_quiet (fail);go_wp2;exact Tz (v:=tuple #[slice t.hd.ao t.xs.length t.hd.cap,int i64 0]) (by simp[results,results240,go_sem]) rfl
    ⟨T,t,by rw[a.o],by rw[a.o],p.XE ((bR.drewN _).drewN _),ad.XE ((bR.drewN _).drewN _),fun _=>by rw[a.o],Tq _⟩
  ·have a:Xr (gI w d k (n.map Ex.xs) (T.map Ex.xs) b=((5,[]),T.map Ex.xs)):=by
    show _=_;unfold gI;rw[hk,Tr rfl,TT,Tp u]
   clear p0 p1 p2 p4;go_enter func240,ntmps240;(go_upto_region 1 with fail);rw[HW.o];(go_upto_region 2 with fail);go_quiet (fail);go_wp2;exact Tz (v:=tuple #[slice none 0 0,int i64 5]) (by simp[results,results240,go_sem]) rfl
    ⟨T,⟨⟨none,0⟩,[]⟩,by rw[a.o];rfl,by rw[a.o],p.XE (bR.drewN _),tU _ _ _,by rw[a.o];simp,Tq _⟩
def km(l:List St)(vs:Xt)(ms:List Bool)(S:List Xt×List Xt)(s:kD):Int×List Xt×List Xt :=
 if((gI l vs ms S.1 S.2 s).1.1==0)=true then
  (if(gI l vs ms S.1 S.2 s).1.2.length<=32 then(0,S.1++[(gI l vs ms S.1 S.2 s).1.2],(gI l vs ms S.1 S.2 s).2++[(gI l vs ms S.1 S.2 s).1.2]) else(10,S))
 else((gI l vs ms S.1 S.2 s).1.1,S)
theorem mW.turned{l:World}{g n k:Nat}{q r b c:List Ex}{f:Nat->Hd}(h:mW a y6 i z7 z5 g n k q r y2)(t:aD i y6 y2 l f)(j:bG l i 307 (iU z7 z5 g n k b c f) (qk b c) f)(m:∀e∈b,sA y6 i y2 e.hd e.xs/\e.xs.length<=32)(o:∀e∈c,sA y6 i y2 e.hd e.xs/\e.xs.length<=32):mW a l i z7 z5 g n k b c f:=by
 refine⟨⟨j,fun e d=>⟨(m e d).1.turned t,(m e d).2⟩,fun e d=>⟨(o e d).1.turned t,(o e d).2⟩⟩,h.XR.ofP t.1 ?_,h.hb,fun x p=>?_⟩
 ·rintro x (e | e)
  ·have:=h.hb;omega
  ·exact h.hin x e
 ·rcases t.2 x p with e | e
  ·exact h.hin x e
  ·exact TF h.XR.size e
theorem NC(E:EU y3 o H D l w x s d k y9 L)(P:mW y3 y4 N o H D w.length l n T g)(hn:(b.XU==3)=false->b.XA<w.length)(az:b.XA<=2000000)(aS:T.length<=2000000)(a1:n.length<=2000000) :
  Calls prog 211 #[pointer (some ⟨N,0,none⟩),agg #[int i64 b.XU,int i64 b.XA,string b.at_.XZ,int i64 b.at_.X0,int i64 b.at_.X3]] y4 fun e w'=>∃(R S:List Ex) (H':Nat->Hd),
   e=returned (int i64 (km w d k (n.map Ex.xs,T.map Ex.xs) b).1)/\mW y3 w' N o H D w.length l R S H' /\
   (((km w d k (n.map Ex.xs,T.map Ex.xs) b).1==0)=true->(R.map Ex.xs,S.map Ex.xs)=(km w d k (n.map Ex.xs,T.map Ex.xs) b).2)/\S.length<=T.length+1/\R.length<=n.length+1:=by
 obtain⟨i1,Z,ai,al,an⟩:=TZ M9;obtain⟨W,hW⟩:∃W,W=y4.alloc (.cells #[int i64 b.XU,int i64 b.XA,string b.at_.XZ,int i64 b.at_.X0,int i64 b.at_.X3] 174):=⟨_,rfl⟩
 have kW:=fI hW.symm;have B:=f9 hW.symm;have HW:Xr _:=hW.symm;obtain⟨u0,u1,u2,u3,u4⟩:=od B;have PW:=P.XE kW;have Y:=N7 y3 W N o H D l b w x s d k y9 L n T g E PW hn az aS;have V:Xr (∀q,gI w d k (n.map Ex.xs) (T.map Ex.xs) b=q->km w d k (n.map Ex.xs,T.map Ex.xs) b=if(q.1.1==0)=true then(if q.1.2.length<=32 then(0,n.map Ex.xs++[q.1.2],q.2++[q.1.2]) else(10,n.map Ex.xs,T.map Ex.xs)) else(q.1.1,n.map Ex.xs,T.map Ex.xs)):=by
  intro q z;subst z;rfl
 have t:Xr _:=V.o _ rfl;generalize gI w d k (n.map Ex.xs) (T.map Ex.xs) b=Q at *;obtain⟨⟨q,xs⟩,t2⟩:=Q;simp only at Y t;clear hW V B;go_enter func211,ntmps211;go_upto_region 1 with fail
 rw[HW.o];go_wp2_with fail;refine Y.mono ?_;rintro e w2 ⟨c,a,rfl,aT,J,F2,ac,a0⟩;subst aT;cases z:(q==0)
 ·have av:(q != 0)=true:=by simp[bne,z]
  have A:Xr (km w d k (n.map Ex.xs,T.map Ex.xs) b=(q,n.map Ex.xs,T.map Ex.xs)):=ci (by rw[t.o,z];rfl);clear t Y u0 u1 u2 u3 u4;go_wp2;go_ret;exact⟨n,c,g,au (by rw[A.o]),J,fun hh=>by rw[A.o]at hh;exact absurd (z.symm.trans hh) (by simp),by omega,by omega⟩
 ·have av:(q != 0)=false:=by simp[bne,z]
  by_cases y:a.xs.length<=32
  ·have ar:¬((a.xs.length:Int) > 32):=(by omega);have A:Xr (km w d k (n.map Ex.xs,T.map Ex.xs) b=(0,n.map Ex.xs++[a.xs],t2++[a.xs])):=ci (by rw[t.o,z,Tr rfl,Tr y]);have ap:Xr _:=ac z;clear t Y u0 u1 u2 u3 u4 ac;(go_upto_region 6 with fail);have D2:=J.ply.bag;have p3:=J.ply.cells.1;have M:=D2.XE ((ae.refl [] w2).alloc (.cells #[slice a.hd.ao a.xs.length a.hd.cap] 61));have ax:Xr (∀j,j≠0->qk (n++[a]) c j=qk n c j):=by
    intro j r
    match j,r with
    | 0,r=>exact absurd rfl r
    | 1,_=>rfl
    | m+2,_=>rfl
   have ad:Xr (∀j,j≠1->qk (n++[a]) (c++[a]) j=qk (n++[a]) c j):=by
    intro j r
    match j,r with
    | 0,_=>rfl
    | 1,r=>exact absurd rfl r
    | m+2,_=>rfl
   go_wp2_with (at_builtin;refine aL _ rfl (.tmp 23) (.tmp 25) 218 rfl i1 (slice none 0 0) 24 (g 0) (ii n) underlying218 Z ai al an rfl TR rfl (by exact M.X9 0) ⟨_,0,none⟩ 1 1 [slice a.hd.ao a.xs.length a.hd.cap] rfl rfl ?e1 ?e2 TR ?e3 ?e4 ?_)
   case e1=>intro j u r;match j,r with | 0,r=>simp at r;subst r;simp[Addr.add]
   case e2=>intro u hu;simp at hu;subst hu;rfl
   case e3=>simp only[ii];unfold maxLen;omega
   case e4=>simp only[ii];omega
   intro K f w4 af F i;obtain⟨k4,f4,I⟩:=M.app (cs':=iU o H D w.length l (n++[a]) c (iJ g 0 ⟨some ⟨K,0,none⟩,f⟩)) (rows':=qk (n++[a]) c) 3 0 K f ((ii n).n+1) _ af (vv n a) F (by simpa using i) ax.o (slice (g 0).ao n.length (g 0).cap) rfl (by simp[iU,iJ,ii]);clear af F i M p3;(go_upto_region 7 with fail);generalize hX:w4.setCell ⟨N,3,none⟩ (slice (some ⟨K,0,none⟩) ((ii n).n+1) f)=X at I ⊢;have DX:=I.o.1;have TX:Xr _:=I.o.2.first (bR.alloc _);have p4:=DX.cell 4;simp only[iU,List.getElem?_cons_succ,List.getElem?_cons_zero]at p4;have O:=DX.XE ((ae.refl [] X).alloc (.cells #[slice a.hd.ao a.xs.length a.hd.cap] 61));clear hX k4 f4;go_wp2_with (at_builtin;refine aL _ rfl (.tmp 33) (.tmp 35) 218 rfl i1 (slice none 0 0) 24 (iJ g 0 ⟨some ⟨K,0,none⟩,f⟩ 1) (ii c) underlying218 Z ai al an rfl TR rfl (by exact O.X9 1) ⟨_,0,none⟩ 1 1 [slice a.hd.ao a.xs.length a.hd.cap] rfl rfl ?e1 ?e2 TR ?e3 ?e4 ?_)
   case e1=>intro j u r;match j,r with | 0,r=>simp at r;subst r;simp[Addr.add]
   case e2=>intro u hu;simp at hu;subst hu;rfl
   case e3=>simp only[ii];unfold maxLen;omega
   case e4=>simp only[ii];omega
   intro g6 C w6 ag G p;obtain⟨k6,f6,U⟩:=O.app (cs':=iU o H D w.length l (n++[a]) (c++[a]) (iJ (iJ g 0 ⟨some ⟨K,0,none⟩,f⟩) 1 ⟨some ⟨g6,0,none⟩,C⟩)) (rows':=qk (n++[a]) (c++[a])) 4 1 g6 C ((ii c).n+1) _ ag (vv c a) G (by simpa using p) ad.o (slice (iJ g 0 ⟨some ⟨K,0,none⟩,f⟩ 1).ao c.length (iJ g 0 ⟨some ⟨K,0,none⟩,f⟩ 1).cap) rfl (by simp[iU,iJ,ii]);have T6:Xr _:=aD.trans TX.o (U.o.2.first (bR.alloc _));clear ag G p O p4;go_wp2;go_ret;refine⟨n++[a],c++[a],_,au (by rw[A.o]),J.turned T6.o U.o.1 (fun e v=>?_) (fun e v=>?_),fun _=>by rw[A.o];simp[ap.o],by simp;omega,by simp⟩
   ·rw[Ug]at v;rcases v with v | v
    ·exact J.ply.shs e v
    ·simp at v;subst v;exact⟨F2,y⟩
   ·rw[Ug]at v;rcases v with v | v
    ·exact J.ply.ths e v
    ·simp at v;subst v;exact⟨F2,y⟩
  ·have ar:(a.xs.length:Int) > 32:=(by omega);have A:Xr (km w d k (n.map Ex.xs,T.map Ex.xs) b=(10,n.map Ex.xs,T.map Ex.xs)):=ci (by rw[t.o,z,Tr rfl,Tp y]);clear t Y u0 u1 u2 u3 u4;go_wp2;go_ret;exact⟨n,c,g,au (by rw[A.o]),J,by rw[A.o];simp,by omega,by omega⟩
def Dq(XY:Pl)(goal:Xt)(th:List Xt):pu :=
 match th with
 | []=>(12,XY)
 | [x]=>if zm x goal=true then cZ else(12,XY)
 | _ :: _ :: _=>(11,XY)
def kB(l:List St)(vs:Xt)(ms:List Bool)(XY:Pl)(goal:Xt):List kD->List Xt×List Xt->pu
 | [],S=>Dq XY goal S.2
 | s :: r,S=>if((km l vs ms S s).1==0)=true then kB l vs ms XY goal r (km l vs ms S s).2 else((km l vs ms S s).1,s.at_)
def fR(l:List St)(a:Nat)(s:St)(steps:List kD):pu:=kB l (rQ l a) (gM l a (rQ l a)) s.XY s.Xz steps ([],[])
theorem FY(a:y<f.length) :
  kB w d k y5 ya (f.drop y) y7=if((km w d k y7 f[y]).1==0)=true then kB w d k y5 ya (f.drop (y+1)) (km w d k y7 f[y]).2 else((km w d k y7 f[y]).1,f[y].at_):=by
 rw[TV a];rfl
theorem DL(a:¬y<f.length) :
  kB w d k y5 ya (f.drop y) y7=Dq y5 ya y7.2:=by
 rw[US (by omega)];rfl
theorem Lp(l:List kD)(k:Nat)(a:k<l.length)(j:Nat)(d:j<5):(yK l)[k*5+j]?=(lO l[k])[j]?:=by
 induction l generalizing k with
 | nil=>simp at a
 | cons s r c =>
  have e:yK (s :: r)=lO s++yK r:=rfl;rw[e];cases k with
  | zero=>rw[TQ (by simp[lO];omega)];simp
  | succ k =>
   rw[TJ (by simp[lO];omega)];have b:(k+1)*5+j-(lO s).length=k*5+j:=by simp[lO];omega
   rw[b,c k (by simpa using a)];rfl
theorem aB.step{h:Hd}{l:List kD}(o:aB a h (gu l))(k:Nat)(n:k<l.length) :
  ∃g,h.ao=some ⟨g,0,none⟩/\l.length<=h.cap/\h.cap<=9223372036854775807/\a.cell? ⟨g,k*5,none⟩=some (int i64 l[k].XU)/\a.cell? ⟨g,k*5+1,none⟩=some (int i64 l[k].XA)/\a.cell? ⟨g,k*5+2,none⟩=some (string l[k].at_.XZ)/\a.cell? ⟨g,k*5+3,none⟩=some (int i64 l[k].at_.X0)/\a.cell? ⟨g,k*5+4,none⟩=some (int i64 l[k].at_.X3):=by
 rcases o.XP with ⟨_,i,_⟩ | ⟨g,e,b,q,f,d,-⟩
 ·have:l.length=0:=i;omega
 ·have c:=fun j (m:j<5) v (p:(lO l[k])[j]?=some v)=>o.cell b (k*5+j) v ((Lp l k n j m).trans p);exact⟨g,b,f,by unfold maxLen at d;exact d,c 0 (by omega) _ rfl,c 1 (by omega) _ rfl,c 2 (by omega) _ rfl,c 3 (by omega) _ rfl,c 4 (by omega) _ rfl⟩
structure Hb(l:List St)(steps:List kD):Prop where
 len:steps.length<=1100000
 num:∀s∈steps,s.XA<=2000000
 named:∀s∈steps,(s.XU==3)=false->s.XA<l.length
theorem LW(hr:fM S o H w x)(ok:jV w)(ha:l<w.length)(an:iH S D w w.length s)(hO:aB S L (gu f))(O:Hb w f) :
  Calls prog 163 #[pointer (some ⟨o,H,none⟩),int i64 l,slice (some ⟨D,0,none⟩) w.length w.length,slice L.ao f.length L.cap] S fun e a =>
   e=returned (iw (fR w l w[l] f))/\ae [] S a:=by
 have a3:=ok.len;have bf:=O.len;have bl:=ok.syms l ha;obtain⟨AO,ad⟩:=bn (L.ao);rw[ad.o];obtain⟨W,hW⟩:∃W,W=S.alloc (.cells #[int i64 0,string ⟨#[]⟩,int i64 0,int i64 0] 165):=⟨_,rfl⟩
 have kW:=fI hW.symm;have BF:W.heap[S.heap.size]?=some (.cells bK 165):=by rw[hW];exact Tu _ _
 have HW:Xr _:=hW.symm;have bk:(rQ w l).length<=w.length:=CD w l w.length;clear hW;go_enter func163,ntmps163;go_upto_region 1 with fail
 rw[HW.o];go_upto_region 2 with (go_at_call 209;refine(rP o H l w x _ (by exact hr.XE kW) ok).mono ?_;rintro e w2 ⟨a0,rfl,aS,a6,k2⟩)
 have K2:=kW.trans k2;go_wp2_with (go_at_call 210;refine(Mi o H l w x a0 (rQ w l) _ (by exact hr.XE K2) ok (by exact aS) (by omega)).mono ?_;rintro e n ⟨tb,hv,hm,rfl,A3,bg,bd,k3⟩);have K3:=K2.trans k3;have ac:=(k2.trans k3).get BF (by simp);have E:EU n o H D tb w x s (rQ w l) (gM w l (rQ w l)) hv hm:=⟨hr.XE K3,ok,an.XE K3,A3,mC _ _ _ _,by omega⟩;have G:aB n L (gu f):=hO.XJ (fun b R=>K3.block b (hO.lt R) (by simp));have P4:mW n (n.alloc (.cells #[pointer (some ⟨o,H,none⟩),slice (some ⟨D,0,none⟩) w.length w.length,pointer (some ⟨tb,0,none⟩),slice none 0 0,slice none 0 0] 307)) n.heap.size o H D w.length tb [] [] nN:=by
  refine⟨⟨⟨Tu _ _,?_,fun i j _=>TH rfl,fun i e=>by simp[nN,Hd.XS]at e⟩,by simp,by simp⟩,bR.alloc _,Tq _,fun b R=>by obtain⟨i,hi⟩:=R;simp[nN,Hd.XS]at hi⟩;intro i
  match i with
  | 0=>exact Ty _ _ _ _
  | 1=>exact Ty _ _ _ _
  | m+2=>exact Ty _ _ _ _
 go_loopg [11] f.length (fun gk iv wr=>∃(i:Nat) (J g:List Ex) (N:Nat->Hd),i<=f.length/\gk=f.length-i/\iv=int i64 i/\J.length<=i/\g.length<=i/\Xr (fR w l w[l] f=kB w (rQ w l) (gM w l (rQ w l)) w[l].XY w[l].Xz (f.drop i) (J.map Ex.xs,g.map Ex.xs))/\mW n wr n.heap.size o H D w.length tb J g N)
 ·exact⟨0,[],[],nN,by omega,by omega,rfl,by simp,by simp,rfl,P4⟩
 obtain⟨i,J,g,N,hi,hg,rfl,be,bj,hR,P⟩:=hrel;clear P4;have B:=P.XR.get ac (by simp);obtain⟨p,r,t,u⟩:=dA B;have K:=am B;have KW:=K3.trans P.XR;by_cases d:i<f.length
 ·have ai:aB wr L (gu f):=G.XJ (fun b R=>P.XR.block b (G.lt R) (by simp));obtain⟨gp,ep,a2,az,d0,d1,d2,d3,d4⟩:=ai.step i d;obtain rfl:AO=some ⟨gp,0,none⟩:=ad.o.symm.trans ep;have h1:=O.num f[i] (TP d);have h2:=O.named f[i] (TP d);have c:Xr _:=hR.o.trans (FY w (rQ w l) (gM w l (rQ w l)) w[l].XY w[l].Xz f (J.map Ex.xs,g.map Ex.xs) i d);have PA:=NC n wr n.heap.size o H D tb f[i] w x s (rQ w l) (gM w l (rQ w l)) hv hm J g N E P h2 h1 (by omega) (by omega);have af:Xr (∀a,ae [] n a->a.cell? ⟨gp,i*5+2,none⟩=some (string f[i].at_.XZ)/\a.cell? ⟨gp,i*5+3,none⟩=some (int i64 f[i].at_.X0)/\a.cell? ⟨gp,i*5+4,none⟩=some (int i64 f[i].at_.X3)):=by
   intro a k;obtain⟨a5,ag,-,-,-,-,q2,q3,q4⟩:=(G.XJ (w':=a) (fun b R=>k.block b (G.lt R) (by simp))).step i d;rw[ep]at ag;cases ag
   exact⟨q2,q3,q4⟩
  clear hR ep ai;generalize f[i]=st at *;obtain⟨sk,sn,U,V,T⟩:=st;simp only at d0 d1 d2 d3 d4 PA af c;generalize km w (rQ w l) (gM w l (rQ w l)) (J.map Ex.xs,g.map Ex.xs) ⟨sk,sn,⟨U,V,T⟩⟩=Q at *;obtain⟨q,Q2⟩:=Q;simp only at PA c;cases hq:(q==0)
  ·have aT:(q != 0)=true:=(by simp[bne,hq]);have z:Xr (fR w l w[l] f=(q,⟨U,V,T⟩)):=ci (by rw[c.o,Tp (by rw[hq];simp)]);clear c;(go_upto_region 8 with (go_at_call 211;refine PA.mono ?_;rintro e Y ⟨ar,av,H5,rfl,P5,al,-,-⟩));obtain⟨c2,c3,c4⟩:=af.o Y P5.XR;have M:=P5.XR.get ac (by simp);clear p r t u K d0 d1 d2 d3 d4;obtain⟨p,r,t,u⟩:=dA M;have K:=am M;have K5:=K3.trans P5.XR;go_wp2;exact Tz (v:=agg #[int i64 q,string U,int i64 V,int i64 T]) (by simp[results,results163,go_sem,p,r,t,u]) rfl
    ⟨by rw[z.o];rfl,lL (F:=S.heap.size) K5 (Tq _) _ _ _ _⟩
  ·have aT:(q != 0)=false:=(by simp[bne,hq]);have z:Xr (fR w l w[l] f=kB w (rQ w l) (gM w l (rQ w l)) w[l].XY w[l].Xz (f.drop (i+1)) Q2):=ci (by rw[c.o,Tr hq]);clear c;go_wp2_with (go_at_call 211;refine PA.mono ?_;rintro e Y ⟨ar,av,H5,rfl,P5,al,ba,bc⟩);go_roundg (f.length-(i+1))
   ·exact⟨i+1,ar,av,H5,by omega,rfl,by go_num,by omega,by omega,by show _=_;rw[al hq];exact z.o,P5⟩
   omega
 ·have Z:Xr _:=hR.o.trans (DL w (rQ w l) (gM w l (rQ w l)) w[l].XY w[l].Xz f (J.map Ex.xs,g.map Ex.xs) i d);have Er:=E.XE P.XR;clear hR;go_upto_region 10 with (go_at_call 98;refine(bF o H l w x _ (by exact Er.recd) ha).mono ?_;rintro e Y ⟨rfl,k5⟩;unfold fS)
  obtain⟨X,hX⟩:∃X,X=Y.alloc (.cells #[int i64 w[l].XU,string w[l].XV,slice (x (10+2*l)).ao w[l].Xz.length (x (10+2*l)).cap,slice (x (11+2*l)).ao w[l].XK.length (x (11+2*l)).cap,string w[l].XY.XZ,int i64 w[l].XY.X0,int i64 w[l].XY.X3,int i64 w[l].til] 158):=⟨_,rfl⟩
  have kX:ae [] wr X:=by rw[hX];exact k5.alloc _
  have BX:=f9 hX.symm;rw[<-hX];have PX:=P.XE kX;have M:=kX.get B (by simp);clear hX p r t u K;obtain⟨p,r,t,u⟩:=dA M;have K:=am M;have KX:=KW.trans kX;obtain⟨-,-,m2,-,m4,m5,m6,-⟩:=wt BX;have p4:=PX.ply.cells.2;rcases g with _ | ⟨b,g⟩
  ·have z:Xr (fR w l w[l] f=(12,w[l].XY)):=Z.o;simp only[List.length_nil]at p4;clear Z;(go_upto_region 12 with fail);go_quiet (fail);go_wp2;exact Tz (v:=agg #[int i64 12,string w[l].XY.XZ,int i64 w[l].XY.X0,int i64 w[l].XY.X3]) (by simp[results,results163,go_sem,p,r,t,u]) rfl
    ⟨by rw[z.o];rfl,lL (F:=S.heap.size) (KX.drewN _) (Tq _) _ _ _ _⟩
  ·rcases g with _ | ⟨y,g⟩
   ·have hE:fR w l w[l] f=if zm b.xs w[l].Xz=true then cZ else(12,w[l].XY):=Z.o;have A:Xr _:=hE;have oT:aB X (N 1) (ii [b]):=PX.ply.bag.X9 1;rcases oT.XP with ⟨_,h0,_⟩ | ⟨gt,a1,et,-,a4,-⟩
    ·simp[ii]at h0
    have ct:=oT.cell et 0 (xx b) rfl;unfold xx at ct;rw[et]at p4;simp only[List.length_cons,List.length_nil]at p4;have ap:=(PX.ply.ths b (by simp));have C:Xr _:=fun(a:World) (k:ae [] X a)=>zN b.hd (x (10+2*l)) b.xs w[l].Xz a (ap.1.view.XE k) (((Er.XE (kX.trans k)).recd.XQ.syms l w[l] (Tn ha)).view) (by omega) (by omega);have HC:Xr (∀a,ae [] X a->a.cell? ⟨n.heap.size,4,none⟩=some (slice (some ⟨gt,0,none⟩) 1 (N 1).cap)/\a.cell? ⟨gt,0,none⟩=some (slice b.hd.ao b.xs.length b.hd.cap)/\a.cell? ⟨Y.heap.size,2,none⟩=some (slice (x (10+2*l)).ao w[l].Xz.length (x (10+2*l)).cap)):=by
     intro a k;refine⟨?_,((PX.XE k).ply.bag.X9 1).cell et 0 (xx b) rfl,?_⟩
     ·rw[<-et];exact(PX.XE k).ply.cells.2
     ·rw[ah (k.get BX (by simp))];rfl
    clear hE Z et oT;(go_upto_region 12 with fail);cases I:zm b.xs w[l].Xz
    ·have z:Xr (fR w l w[l] f=(12,w[l].XY)):=(by show _=_;rw[A.o,I];rfl);rw[I]at C;clear A;go_region_held3 (fun a=>a.cell? ⟨n.heap.size,4,none⟩=some (slice (some ⟨gt,0,none⟩) 1 (N 1).cap)/\a.cell? ⟨gt,0,none⟩=some (slice b.hd.ao b.xs.length b.hd.cap)/\a.cell? ⟨Y.heap.size,2,none⟩=some (slice (x (10+2*l)).ao w[l].Xz.length (x (10+2*l)).cap)) (go_keep) (first | (go_at_call 212;refine(C.o _ (by exact(ae.refl [] X).drew)).mono ?_;rintro e w6 ⟨rfl,k6⟩;obtain⟨x0,x1,x2⟩:=HC.o w6 ((ae.refl [] X).drew.trans k6)))
     all_goals
      have kk:=((ae.refl [] X).drew.trans k6);have ax:=kk.get BX (by simp);have B6:=kk.get M (by simp);clear p r t u K m2 m4 m5 m6 p4 ct;obtain⟨p,r,t,u⟩:=dA B6;have K:=am B6;obtain⟨-,-,-,-,m4,m5,m6,-⟩:=wt ax;go_wp2;exact Tz (v:=agg #[int i64 12,string w[l].XY.XZ,int i64 w[l].XY.X0,int i64 w[l].XY.X3]) (by simp[results,results163,go_sem,p,r,t,u]) rfl ⟨by rw[z.o];rfl,lL (F:=S.heap.size) (KX.trans kk) (Tq _) _ _ _ _⟩
    ·have z:Xr (fR w l w[l] f=cZ):=(by show _=_;rw[A.o,I];rfl);rw[I]at C;clear A;go_region_held3 (fun a=>a.cell? ⟨n.heap.size,4,none⟩=some (slice (some ⟨gt,0,none⟩) 1 (N 1).cap)/\a.cell? ⟨gt,0,none⟩=some (slice b.hd.ao b.xs.length b.hd.cap)/\a.cell? ⟨Y.heap.size,2,none⟩=some (slice (x (10+2*l)).ao w[l].Xz.length (x (10+2*l)).cap)) (go_keep) (first | (go_at_call 212;refine(C.o _ (by exact(ae.refl [] X).drew)).mono ?_;rintro e w6 ⟨rfl,k6⟩;obtain⟨x0,x1,x2⟩:=HC.o w6 ((ae.refl [] X).drew.trans k6)))
     all_goals
      have kk:=((ae.refl [] X).drew.trans k6);have B6:=kk.get M (by simp);clear p r t u K m2 m4 m5 m6 p4 ct;obtain⟨p,r,t,u⟩:=dA B6;have K:=am B6;go_wp2;exact Tz (v:=agg #[int i64 0,string ⟨#[]⟩,int i64 0,int i64 0]) (by simp[results,results163,go_sem,p,r,t,u]) rfl ⟨by rw[z.o];rfl,lL (F:=S.heap.size) (KX.trans kk) (Tq _) _ _ _ _⟩
   ·have z:Xr (fR w l w[l] f=(11,w[l].XY)):=Z.o;have a7:((g.length:Int)+1+1 > 1):=(by omega);simp only[List.length_cons]at p4;clear Z;go_wp2;exact Tz (v:=agg #[int i64 11,string w[l].XY.XZ,int i64 w[l].XY.X0,int i64 w[l].XY.X3]) (by simp[results,results163,go_sem,p,r,t,u]) rfl
     ⟨by rw[z.o];rfl,lL (F:=S.heap.size) KX (Tq _) _ _ _ _⟩
structure jB(w:World)(b o:Nat)(l:List St)(H:Nat->Hd)(g:Nat)(L:List Rw):Prop where
 recd:fM w b o l H
 cell:∃arr t,w.heap[b]?=some (.cells arr t)/\arr[o+2]?=some (slice (some ⟨g,0,none⟩) L.length L.length)
 arr:w.heap[g]?=some (.cells (lH L).toArray 38)
theorem jB.XE(h:jB a i z7 I y2 z5 z6)(k:ae [] a y6):jB y6 i z7 I y2 z5 z6:=by
 obtain⟨b,t,c,d⟩:=h.cell;exact⟨h.recd.XE k,⟨b,t,k.get c (by simp),d⟩,k.get h.arr (by simp)⟩
theorem jB.at2(h:jB a i z7 I y2 z5 z6):a.cell? ⟨i,z7+2,none⟩=some (slice (some ⟨z5,0,none⟩) z6.length z6.length):=by
 obtain⟨b,t,c,d⟩:=h.cell;rw[ah c];exact d
theorem jB.row(h:jB a i z7 I y2 z5 z6)(k:Nat)(d:k<z6.length) :
  a.cell? ⟨z5,k*6,none⟩=some (string z6[k].XV)/\a.cell? ⟨z5,k*6+1,none⟩=some (int i64 z6[k].XF)/\a.cell? ⟨z5,k*6+2,none⟩=some (int i64 z6[k].why)/\a.cell? ⟨z5,k*6+3,none⟩=some (string z6[k].at_.XZ)/\a.cell? ⟨z5,k*6+4,none⟩=some (int i64 z6[k].at_.X0)/\a.cell? ⟨z5,k*6+5,none⟩=some (int i64 z6[k].at_.X3):=by
 have c:=fun j (b:j<6) v (e:(nU z6[k])[j]?=some v)=>(ah h.arr (k*6+j)).trans ((by simp only[List.getElem?_toArray];exact(IR z6 k d j b).trans e));exact⟨c 0 (by omega) _ rfl,c 1 (by omega) _ rfl,c 2 (by omega) _ rfl,c 3 (by omega) _ rfl,c 4 (by omega) _ rfl,c 5 (by omega) _ rfl⟩
def eO(L:List Rw)(n:Nat):Int:=(L.getD n qs).XF
set_option maxRecDepth 512
theorem oo(h:jB S H D w s zt M) :
  Calls prog 96 #[pointer (some ⟨H,D,none⟩),int i64 l] S fun e d=>e=returned (int i64 (eO M l))/\d=S:=by
 have f:=h.at2;by_cases a:l<M.length
 ·have c:Xr (eO M l=M[l].XF):=by show _=_;unfold eO;rw[To,Tn a];rfl
  obtain⟨-,g,-,-,-,-⟩:=h.row l a;have b:¬((l:Int) ≥ M.length):=by omega
  go_enter func96,ntmps96;go_wp2;go_ret;exact⟨au (by rw[c.o]),rfl⟩
 ·have c:Xr (eO M l=0):=by show _=_;unfold eO;rw[To,Un (by omega)];rfl
  have b:(l:Int) ≥ M.length:=by omega
  go_enter func96,ntmps96;go_wp2;go_ret;exact⟨au (by rw[c.o]),rfl⟩
def uH(steps:List kD):Option Nat:=(List.range steps.length).find? (fun i=>match steps[i]? with | some s=>s.XU==1 | none=>false)
theorem uZ(v:aB S L (gu f))(B:f.length<=1073741824) :
  Calls prog 162 #[slice L.ao f.length L.cap] S fun e x=>e=returned (int i64 (oD (uH f)))/\x=S:=by
 obtain⟨r,c⟩:=bn (L.ao);rw[c.o];go_enter func162,ntmps162;go_wp2
 go_loopg [3] f.length (fun g i wr=>∃k:Nat,k<=f.length/\g=f.length-k/\i=int i64 k/\Xr (∀i,i<k->(match f[i]? with | some s=>s.XU==1 | none=>false)=false)/\wr=S)
 ·exact⟨0,by omega,by omega,rfl,fun i q=>by omega,rfl⟩
 obtain⟨k,A,z,rfl,a,rfl⟩:=hrel;by_cases b:k<f.length
 ·obtain⟨u,n,m,l,y,-⟩:=v.step k b;obtain rfl:r=some ⟨u,0,none⟩:=c.o.symm.trans n;clear n;have d:Xr (f[k]?=some f[k]):=Tn b;generalize f[k]=w at *;cases p:(w.XU==1)
  ·have t:Xr (∀i,i<k+1->(match f[i]? with | some s=>s.XU==1 | none=>false)=false):=by
    intro i q;by_cases e:i=k
    ·subst e;rw[d.o];exact p
    ·exact a.o i (by omega)
   clear d a;go_wp2;go_roundg (f.length-(k+1))
   ·exact⟨k+1,by omega,rfl,by go_num,t,rfl⟩
   omega
  ·have j:Xr (uH f=some k):=pb b (by rw[d.o];exact p) a.o;clear d a;go_wp2;go_ret;exact⟨au (by rw[j.o];rfl),rfl⟩
 ·have j:Xr (uH f=none):=nQ (fun i q=>a.o i (by omega));clear a;go_wp2;go_ret;exact⟨au (by rw[j.o];rfl),rfl⟩
def xg(v:Int):Bool:=v==2||v==3||v==4
def m8(L:List Rw)(steps:List kD):Bool:=steps.all (fun s=>!(s.XU==2) || !(xg (eO L s.XA)))
theorem Qf(c:y<f.length)(a:(f[y].XU==2)=true)(b:xg (eO z4 f[y].XA)=true):m8 z4 f=false:=by
 cases e:m8 z4 f
 ·rfl
 ·unfold m8 at e;rw[Uw]at e;have:=e _ (TP c);rw[a,b]at this;cases this
theorem NW(h:∀k (a:k<f.length),(!(f[k].XU==2) || !(xg (eO z4 f[k].XA)))=true):m8 z4 f=true:=by
 unfold m8;rw[Uw];intro x b;obtain⟨k,a,rfl⟩:=Uy b;exact h k a
theorem NV(h:jB S D l w s zt z4)(J:aB S L (gu f))(K:f.length<=1100000) :
  Calls prog 164 #[pointer (some ⟨D,l,none⟩),slice L.ao f.length L.cap] S fun e M=>e=returned (bool (m8 z4 f))/\M=S:=by
 obtain⟨F,o⟩:=bn (L.ao);rw[o.o];go_enter func164,ntmps164;go_wp2
 go_loopg [5] f.length (fun zt i wr=>∃k:Nat,k<=f.length/\zt=f.length-k/\i=int i64 k/\Xr (∀i (n:i<f.length),i<k->(!(f[i].XU==2) || !(xg (eO z4 f[i].XA)))=true)/\wr=S)
 ·exact⟨0,by omega,by omega,rfl,fun i _ n=>by omega,rfl⟩
 obtain⟨k,Q,P,rfl,d,rfl⟩:=hrel;by_cases q:k<f.length
 ·obtain⟨G,C,B,x,N,O,-⟩:=J.step k q;obtain rfl:F=some ⟨G,0,none⟩:=o.o.symm.trans C;clear C;have b:Xr ((!(f[k].XU==2) || !(xg (eO z4 f[k].XA)))=true->∀i (n:i<f.length),i<k+1->(!(f[i].XU==2) || !(xg (eO z4 f[i].XA)))=true):=by
   intro H i n I;by_cases e:i=k
   ·subst e;exact H
   ·exact d.o i n (by omega)
  have a:Xr _:=Qf z4 f k q;have p:=oo D l f[k].XA w s zt z4 wr h;clear d;generalize f[k]=t at *;cases m:(t.XU==2)
  ·have z:(t.XU != 2)=true:=(by simp[bne,m]);have u:Xr _:=(b.o (by rw[m];rfl));clear b a p;go_wp2;go_roundg (f.length-(k+1))
   ·exact⟨k+1,by omega,rfl,by go_num,u.o,rfl⟩
   omega
  ·have z:(t.XU != 2)=false:=(by simp[bne,m]);have g:Xr (∀v,xg v=(v==2||v==3||v==4)):=fun _=>rfl;generalize eO z4 t.XA=V at *;cases r:(V==2)
   ·cases y:(V==3)
    ·cases E:(V==4)
     ·have u:Xr _:=b.o (by rw[g.o,r,y,E];simp);clear b a;go_wp2_with (go_at_call 96;refine p.mono ?_;rintro e A ⟨rfl,c⟩;rw[c]);go_roundg (f.length-(k+1))
      ·exact⟨k+1,by omega,rfl,by go_num,u.o,rfl⟩
      omega
     ·have j:Xr _:=a.o m (by rw[g.o,r,y,E];rfl);clear b a;go_wp2_with (go_at_call 96;refine p.mono ?_;rintro e A ⟨rfl,c⟩;rw[c]);go_ret;exact⟨aF j.o.symm,rfl⟩
    ·have j:Xr _:=a.o m (by rw[g.o,r,y];rfl);clear b a;go_wp2_with (go_at_call 96;refine p.mono ?_;rintro e A ⟨rfl,c⟩;rw[c]);go_ret;exact⟨aF j.o.symm,rfl⟩
   ·have j:Xr _:=a.o m (by rw[g.o,r];rfl);clear b a;go_wp2_with (go_at_call 96;refine p.mono ?_;rintro e A ⟨rfl,c⟩;rw[c]);go_ret;exact⟨aF j.o.symm,rfl⟩
 ·have j:Xr (m8 z4 f=true):=NW z4 f (fun i n=>d.o i n (by omega));clear d;go_wp2;go_ret;exact⟨aF j.o.symm,rfl⟩
theorem zQ{t:Xs}(h:jH I t i=some z7):z7<I.length:=by
 unfold jH at h;have:=Us h;simpa using this
def G6(l:List St)(s:kD):Prop:=s.XA<=1020000/\((s.XU==3)=false->s.XA<l.length)
theorem Ko(g:0<w.length)(i:w.length<=10000)(c:List (Xs×Pl))(a:List kD)(h:∀s∈a,G6 w s)(N:Nat)(f:a.length<=N) :
  (∀s∈(dN w zt y5 c a).1,G6 w s)/\(dN w zt y5 c a).1.length<=N+c.length:=by
 induction c generalizing a N with
 | nil =>
  rw[dN];split
  ·exact⟨by simp,by simp⟩
  ·exact⟨h,by simpa using f⟩
 | cons x r e =>
  obtain⟨t,p⟩:=x;rw[dN];split
  ·have:=e (a++[⟨1,0,p⟩]) (by intro s b;simp at b;rcases b with b | rfl;exact h s b;exact⟨by simp,fun _=>g⟩) (N+1) (by simp;omega);exact⟨this.1,by have:=this.2;simp;omega⟩
  ·split
   ·exact⟨by simp,by simp⟩
   ·next n j =>
    have d:=zQ j;have:=e (a++[⟨2,n,p⟩]) (by intro s b;simp at b;rcases b with b | rfl;exact h s b;exact⟨by simp only;omega,fun _=>d⟩) (N+1) (by simp;omega);exact⟨this.1,by have:=this.2;simp;omega⟩
structure zd(l:List St)(c:lC):Prop where
 XX:∀n∈c.XX,n<l.length
 XM:∀n∈c.XM,n<=1020000
 steps:∀s∈c.steps,G6 l s
theorem zd.letter{c:lC}(g:zd I c)(h:jo c i)(f:0<I.length)(j:I.length<=10000)(l:i<=1020000)(n:Nat)(p:Pl):zd I (bI c n p).2:=by
 have k:=h.steps;unfold bI;split
 ·unfold fm dP;split
  ·next b =>
   refine⟨g.XX,g.XM,?_⟩;intro s a;simp at a;rcases a with a | rfl
   ·exact g.steps s a
   ·have:=g.XX _ (TP b);rw[Tn b];exact⟨by simp only[Option.getD_some];omega,fun _=>this⟩
  ·split
   ·next b =>
    refine⟨g.XX,g.XM,?_⟩;intro s a;simp at a;rcases a with a | rfl
    ·exact g.steps s a
    ·have:=g.XM _ (TP b);rw[Tn b];exact⟨this,fun e=>by simp at e⟩
   ·exact⟨g.XX,g.XM,g.steps⟩
 ·split
  ·unfold jL;split <;> exact⟨g.XX,g.XM,g.steps⟩
  ·split
   ·refine⟨g.XX,?_,g.steps⟩;intro x d;simp at d;rcases d with d | rfl
    ·exact g.XM x d
    ·omega
   ·split
    ·refine⟨g.XX,g.XM,?_⟩;intro s a;simp[dP]at a;rcases a with a | rfl
     ·exact g.steps s a
     ·exact⟨by simp,fun _=>f⟩
    ·exact g
theorem Cn(l:0<I.length)(a:I.length<=10000)(t:Xs)(p:Pl)(f:Nat):∀(j:Nat) (c:lC) (N:Nat),zd I c->jo c (N+j)->j<=t.size->N+t.size<=1020000->zd I (ic t p f j c).2:=by
 induction f with
 | zero=>intro j c N g h k d;exact g
 | succ f n =>
  intro j c N g h k d;rw[ic];split
  ·next m =>
   have i:=h.letter (aI t j).toNat { p with X3:=p.X3+j };have b:=g.letter h l a (by omega) (aI t j).toNat { p with X3:=p.X3+j };split
   ·exact n (j+1) _ N b (by rw[<-V6];exact i) (by omega) d
   ·exact b
  ·exact g
theorem Cp(j:0<I.length)(d:I.length<=10000)(a:List (Xs×Pl)):∀(c:lC) (N:Nat),zd I c->jo c N->N+kV a<=1020000->zd I (pW a c).2/\jo (pW a c).2 1020000:=by
 induction a with
 | nil=>intro c N g h b;exact⟨g,h.mono (by simp[kV]at b;omega)⟩
 | cons x r k =>
  intro c N g h b;obtain⟨t,p⟩:=x;have i:kV ((t,p) :: r)=t.size+kV r:=by simp[kV]
  rw[i]at b;have e:zd I (ma t p c).2:=Cn j d t p _ 0 c N g h (Uc _) (by omega);have f:=AD t p h;rw[pW];split
  ·exact k _ (N+t.size) e f (by omega)
  ·exact⟨e,f.mono (by omega)⟩
theorem E5(c:List (Xs×Pl))(i:Nat)(b:Xv)(h:∀n∈b,n<w.length):∀n∈(b8 w zt y5 i c b).2,n<w.length:=by
 induction c generalizing i b with
 | nil=>exact h
 | cons x r e =>
  obtain⟨t,p⟩:=x;rw[b8];split
  ·exact h
  ·split
   ·exact h
   ·next n d =>
    split
    ·exact h
    ·exact e (i+1) (b++[n]) (by intro m a;simp at a;rcases a with a | rfl;exact h m a;exact zQ d)
theorem F3(c:jV w)(m:y<w.length)(j:rX w[y]):Hb w (dC w y w[y]).1:=by
 have k:0<w.length:=by omega
 have p:=c.prfs y m;have q:=j.size;have a:(∀s∈(dC w y w[y]).1,G6 w s)/\(dC w y w[y]).1.length<=1100000:=by
  unfold dC;split
  ·unfold kP zL;have e:=CQ w y w[y] c.len p;have f:zd w ⟨(b8 w y w[y].XY 1 (w[y].XK.drop 1) (aP w y)).2,[],[],0,false⟩:=⟨E5 w y w[y].XY _ 1 _ (fun n o=>Dj o),by simp,by simp⟩;generalize b8 w y w[y].XY 1 (w[y].XK.drop 1) (aP w y)=l at *;obtain⟨⟨b,d⟩,i⟩:=l;simp only at e f ⊢;have vh:zd w (Cs d (w[y].XK.drop b) ⟨i,[],[],0,false⟩).2/\jo (Cs d (w[y].XK.drop b) ⟨i,[],[],0,false⟩).2 1020000:=by
    unfold Cs;split
    ·exact Cp k c.len _ _ 20000 f e (by have:=Ei w[y].XK b;omega)
    ·exact⟨f,e.mono (by omega)⟩
   generalize Cs d (w[y].XK.drop b) ⟨i,[],[],0,false⟩=R at *;unfold mZ;split
   ·split
    ·split
     ·exact⟨by simp,by simp⟩
     ·exact⟨vh.1.steps,by have:=vh.2.steps;simp only;omega⟩
    ·exact⟨by simp,by simp⟩
   ·exact⟨by simp,by simp⟩
  ·have:=Ko w y w[y].XY k c.len w[y].XK [] (by simp) 0 (by simp);exact⟨this.1,by have:=this.2;omega⟩
 exact⟨a.2,fun s g=>by have:=(a.1 s g).1;omega,fun s g=>(a.1 s g).2⟩
section
theorem vT(k l c u:Int)(a f:Xs)(b d:Xu)(i e j g:Nat) :
    (Instr.field 158 (agg #[int i64 k,string a,slice b i e,slice d j g,string f,int i64 l,int i64 c,int i64 u]) 1).run prog S=.ok (string a) S:=by kernel_rfl
attribute [local go_sem] vT
def kG(XV:Xs)(L:List Rw)(steps:List kD)(f:pu):Rw :=
  if(f.1==0)=true then
    (match uH steps with
     | some u=>⟨XV,3,0,((steps[u]?).map kD.at_).getD ln⟩
     | none=>if m8 L steps=true then⟨XV,5,0,ln⟩ else⟨XV,4,0,ln⟩)
  else⟨XV,2,f.1,f.2⟩
def dr(l:List St)(n:Nat)(s:St)(L:List Rw):Rw :=
  kG s.XV L (dC l n s).1 (if(uH (dC l n s).1).isNone=true/\((dC l n s).2.1==0)=true then fR l n s (dC l n s).1 else(dC l n s).2)
theorem ff{x:Rw}(h:a.heap[i]?=some (.cells (nU x).toArray 38)) :
    a.cell? ⟨i,0,none⟩=some (string x.XV)/\a.cell? ⟨i,1,none⟩=some (int i64 x.XF)/\a.cell? ⟨i,2,none⟩=some (int i64 x.why)/\a.cell? ⟨i,3,none⟩=some (string x.at_.XZ)/\a.cell? ⟨i,4,none⟩=some (int i64 x.at_.X0)/\a.cell? ⟨i,5,none⟩=some (int i64 x.at_.X3):=by
  refine⟨?_,?_,?_,?_,?_,?_⟩ <;> (rw[ah h];rfl)
theorem zZ(K:ae [] a y6)(b:a.heap.size<=i)(c d e f g j:Value):ae [] a ((((((y6.setCell ⟨i,0,none⟩ c).setCell ⟨i,1,none⟩ d).setCell ⟨i,2,none⟩ e).setCell ⟨i,3,none⟩ f).setCell ⟨i,4,none⟩ g).setCell ⟨i,5,none⟩ j) :=
  (((((K.setCell (TE b) _).setCell (TE b) _).setCell (TE b) _).setCell (TE b) _).setCell (TE b) _).setCell (TE b) _
set_option maxRecDepth 100000
theorem JY(h:jB S N o w s D M)(ok:jV w)(ha:H<w.length)(a0:rX w[H])(az:iH S l w w.length g) :
    Calls prog 115 #[pointer (some ⟨N,o,none⟩),int i64 H,slice (some ⟨l,0,none⟩) w.length w.length] S fun e w' =>
      e=returned (agg (nU (dr w H w[H] M)).toArray)/\ae [] S w':=by
  have ap:=F3 w H ok ha a0;obtain⟨W,hW⟩:∃W,W=S.alloc (.cells #[string ⟨#[]⟩,int i64 0,int i64 0,string ⟨#[]⟩,int i64 0,int i64 0] 38):=⟨_,rfl⟩
  have kW:=fI hW.symm;have BF:W.heap[S.heap.size]?=some (.cells (nU qs).toArray 38):=by rw[hW];exact Tu _ _
  have HW:Xr _:=hW.symm;clear hW;have Y:Xr (dr w H w[H] M=kG w[H].XV M (dC w H w[H]).1 (if(uH (dC w H w[H]).1).isNone=true/\((dC w H w[H]).2.1==0)=true then fR w H w[H] (dC w H w[H]).1 else(dC w H w[H]).2)):=rfl;have RD:=fun(w':World) (k:ae [] S w')=>Ag N o H w s w' (h.XE k).recd ha ok a0;have PL:=fun(hd:Hd) (w':World) (k:ae [] S w') (o':aB w' hd (gu (dC w H w[H]).1))=>LW N o l H w s g hd (dC w H w[H]).1 w' (h.XE k).recd ok ha (az.XE k) o' ap;have al:=ap.len;have av:Xr _:=RD;have ar:Xr _:=PL;clear RD PL ap;generalize dC w H w[H]=PF at *;obtain⟨a,J,G⟩:=PF;simp only at Y av ar al;go_enter func115,ntmps115;go_upto_region 1 with fail
  rw[HW.o];go_upto_region 2 with (go_at_call 98;refine(bF N o H w s _ (by exact(h.XE kW).recd) ha).mono ?_;rintro e i ⟨rfl,k1⟩;unfold fS)
  obtain⟨W2,ac⟩:∃W2,W2=i.alloc (.cells #[string w[H].XV,int i64 0,int i64 0,string ⟨#[]⟩,int i64 0,int i64 0] 38):=⟨_,rfl⟩
  have k2:ae [] W W2:=by rw[ac];exact k1.alloc _
  have BR:W2.heap[i.heap.size]?=some (.cells (nU ⟨w[H].XV,0,0,ln⟩).toArray 38):=by rw[ac];exact Tu _ _
  have b:S.heap.size<i.heap.size:=by have:=k1.size;have:=aj BF;omega
  rw[<-ac];clear ac;have K2:=kW.trans k2;have a1:=k2.get BF (by simp);go_upto_region 3 with (go_at_call 101;refine(av.o _ (by exact K2)).mono ?_;rintro e w3 ⟨hd,rfl,ai,a7,k3⟩;unfold iw)
  obtain⟨W4,T⟩:∃W4,W4=w3.alloc (.cells #[int i64 J,string G.XZ,int i64 G.X0,int i64 G.X3] 165):=⟨_,rfl⟩
  have k4:ae [] W2 W4:=by rw[T];exact k3.alloc _
  have B9:W4.heap[w3.heap.size]?=some (.cells (Dc (J,G)) 165):=by rw[T];exact Tu _ _
  have L:aB W4 hd (gu a):=by rw[T];exact ai.XJ (fun x hx=>(bR.alloc _).block x (ai.lt hx) (by simp))
  rw[<-T];clear T;have ba:i.heap.size<w3.heap.size:=by have:=k3.size;have:=aj BR;omega
  have K4:=K2.trans k4;have af:=k4.get BR (by simp);have ad:=k4.get a1 (by simp);have FU:=uZ hd a W4 L (by omega);cases hu:uH a with
  | some u =>
    have HU:Xr _:=hu;rw[hu]at FU;simp only[oD]at FU;have aT:u<a.length:=by
      have:=Us hu;simpa using this
    have a4:(u:Int) ≥ 0:=(by omega);have a5:(u:Int)<a.length:=(by omega);clear hu;have Z:=K4;have O:=B9;have j:=af;have y:=ad;obtain⟨f0,f1,f2,f3⟩:=jQ O;obtain⟨m,n,p,q,r,t⟩:=ff j;have yr:=am j;simp only[ln]at m n p q r t;cases U:(J==0)
    · have aS:(J != 0)=true:=by simp[bne,U]
      have Q:Xr (dr w H w[H] M=⟨w[H].XV,2,J,G⟩):=ci (by rw[Y.o,HU.o,U];simp[kG,U]);clear Y;(go_upto_region 4 with (go_at_call 162;refine FU.mono ?_;rintro e wu ⟨rfl,I⟩;rw[I]));(go_upto_region 16 with fail);obtain⟨X,d⟩:∃X,X=((((W4.setCell ⟨i.heap.size,1,none⟩ (int i64 2)).setCell ⟨i.heap.size,2,none⟩ (int i64 J)).setCell ⟨i.heap.size,3,none⟩ (string G.XZ)).setCell ⟨i.heap.size,4,none⟩ (int i64 G.X0)).setCell ⟨i.heap.size,5,none⟩ (int i64 G.X3):=⟨_,rfl⟩
      have P:X.heap[i.heap.size]?=some (.cells (nU ⟨w[H].XV,2,J,G⟩).toArray 38):=by
        rw[d];rw[ab (ab (ab (ab (ab j _ _) _ _) _ _) _ _) _ _];rfl
      have R:ae [] S X:=(by rw[d];exact(((((Z.setCell (TE (UB b)) _).setCell (TE (UB b)) _).setCell (TE (UB b)) _).setCell (TE (UB b)) _).setCell (TE (UB b)) _));have c:X.heap[S.heap.size]?=some (.cells (nU qs).toArray 38):=by
        rw[d];rw[TM _ _ _ _ (by simp;omega)];rw[TM _ _ _ _ (by simp;omega)];rw[TM _ _ _ _ (by simp;omega)];rw[TM _ _ _ _ (by simp;omega)];rw[TM _ _ _ _ (by simp;omega)];exact y
      rw[<-d];clear d m n p q r t yr;obtain⟨m,n,p,q,r,t⟩:=ff P;obtain⟨z,A,B,C,E,F⟩:=ff c;have ys:=am c;simp only[qs,ln]at m n p q r t z A B C E F;go_wp2;exact Tz (v:=agg (nU ⟨w[H].XV,2,J,G⟩).toArray) (by simp[results,results115,go_sem,z,A,B,C,E,F,nU]) rfl ⟨by rw[Q.o],zZ R (Tq _) _ _ _ _ _ _⟩
    · have aS:(J != 0)=false:=by simp[bne,U]
      obtain⟨gp,ep,ax,ag,-,-,d2,d3,d4⟩:=L.step u aT;have Q:Xr (dr w H w[H] M=⟨w[H].XV,3,0,a[u].at_⟩):=ci (by rw[Y.o,HU.o,U];simp[kG,U,HU.o,aT]);obtain⟨ao,a6⟩:=hd;simp only at ep ax ag;subst ep;clear Y;generalize a[u]=st at *;(go_upto_region 4 with (go_at_call 162;refine FU.mono ?_;rintro e wu ⟨rfl,I⟩;rw[I]));(go_upto_region 16 with fail);obtain⟨X,d⟩:∃X,X=(((W4.setCell ⟨i.heap.size,1,none⟩ (int i64 3)).setCell ⟨i.heap.size,3,none⟩ (string st.at_.XZ)).setCell ⟨i.heap.size,4,none⟩ (int i64 st.at_.X0)).setCell ⟨i.heap.size,5,none⟩ (int i64 st.at_.X3):=⟨_,rfl⟩
      have P:X.heap[i.heap.size]?=some (.cells (nU ⟨w[H].XV,3,0,st.at_⟩).toArray 38):=by
        rw[d];rw[ab (ab (ab (ab j _ _) _ _) _ _) _ _];rfl
      have R:ae [] S X:=(by rw[d];exact((((Z.setCell (TE (UB b)) _).setCell (TE (UB b)) _).setCell (TE (UB b)) _).setCell (TE (UB b)) _));have c:X.heap[S.heap.size]?=some (.cells (nU qs).toArray 38):=by
        rw[d];rw[TM _ _ _ _ (by simp;omega)];rw[TM _ _ _ _ (by simp;omega)];rw[TM _ _ _ _ (by simp;omega)];rw[TM _ _ _ _ (by simp;omega)];exact y
      rw[<-d];clear d m n p q r t yr;obtain⟨m,n,p,q,r,t⟩:=ff P;obtain⟨z,A,B,C,E,F⟩:=ff c;have ys:=am c;simp only[qs,ln]at m n p q r t z A B C E F;go_wp2;exact Tz (v:=agg (nU ⟨w[H].XV,3,0,st.at_⟩).toArray) (by simp[results,results115,go_sem,z,A,B,C,E,F,nU]) rfl ⟨by rw[Q.o],zZ R (Tq _) _ _ _ _ _ _⟩
  | none =>
    have HU:Xr _:=hu;rw[hu]at FU;simp only[oD]at FU;clear hu;cases U:(J==0)
    · have aS:(J != 0)=true:=by simp[bne,U]
      have Q:Xr (dr w H w[H] M=⟨w[H].XV,2,J,G⟩):=ci (by rw[Y.o,HU.o,U];simp[kG,U]);have Z:=K4;have O:=B9;have j:=af;have y:=ad;obtain⟨f0,f1,f2,f3⟩:=jQ O;obtain⟨m,n,p,q,r,t⟩:=ff j;have yr:=am j;simp only[ln]at m n p q r t;clear Y;(go_upto_region 4 with (go_at_call 162;refine FU.mono ?_;rintro e wu ⟨rfl,I⟩;rw[I]));(go_upto_region 16 with fail);obtain⟨X,d⟩:∃X,X=((((W4.setCell ⟨i.heap.size,1,none⟩ (int i64 2)).setCell ⟨i.heap.size,2,none⟩ (int i64 J)).setCell ⟨i.heap.size,3,none⟩ (string G.XZ)).setCell ⟨i.heap.size,4,none⟩ (int i64 G.X0)).setCell ⟨i.heap.size,5,none⟩ (int i64 G.X3):=⟨_,rfl⟩
      have P:X.heap[i.heap.size]?=some (.cells (nU ⟨w[H].XV,2,J,G⟩).toArray 38):=by
        rw[d];rw[ab (ab (ab (ab (ab j _ _) _ _) _ _) _ _) _ _];rfl
      have R:ae [] S X:=(by rw[d];exact(((((Z.setCell (TE (UB b)) _).setCell (TE (UB b)) _).setCell (TE (UB b)) _).setCell (TE (UB b)) _).setCell (TE (UB b)) _));have c:X.heap[S.heap.size]?=some (.cells (nU qs).toArray 38):=by
        rw[d];rw[TM _ _ _ _ (by simp;omega)];rw[TM _ _ _ _ (by simp;omega)];rw[TM _ _ _ _ (by simp;omega)];rw[TM _ _ _ _ (by simp;omega)];rw[TM _ _ _ _ (by simp;omega)];exact y
      rw[<-d];clear d m n p q r t yr;obtain⟨m,n,p,q,r,t⟩:=ff P;obtain⟨z,A,B,C,E,F⟩:=ff c;have ys:=am c;simp only[qs,ln]at m n p q r t z A B C E F;go_wp2;exact Tz (v:=agg (nU ⟨w[H].XV,2,J,G⟩).toArray) (by simp[results,results115,go_sem,z,A,B,C,E,F,nU]) rfl ⟨by rw[Q.o],zZ R (Tq _) _ _ _ _ _ _⟩
    · have K:Xr (dr w H w[H] M=kG w[H].XV M a (fR w H w[H] a)):=by show _=_;rw[Y.o,HU.o,U];simp
      obtain⟨f0,f1,f2,f3⟩:=jQ B9;clear Y;generalize fR w H w[H] a=f at *;(go_upto_region 4 with (go_at_call 162;refine FU.mono ?_;rintro e wu ⟨rfl,I⟩;rw[I]));(go_upto_region 7 with (go_at_call 163;refine(ar.o hd _ (by exact K4) (by exact L)).mono ?_;rintro e w5 ⟨rfl,k5⟩;unfold iw;obtain⟨t0,t1,t2,t3⟩:=jQ (k5.get B9 (by simp));have yt:=am (k5.get B9 (by simp))));obtain⟨V,hV⟩:∃V,V=(((w5.setCell ⟨w3.heap.size,0,none⟩ (int i64 f.1)).setCell ⟨w3.heap.size,1,none⟩ (string f.2.XZ)).setCell ⟨w3.heap.size,2,none⟩ (int i64 f.2.X0)).setCell ⟨w3.heap.size,3,none⟩ (int i64 f.2.X3):=⟨_,rfl⟩
      have O:V.heap[w3.heap.size]?=some (.cells (Dc f) 165):=by
        rw[hV,ab (ab (ab (ab (k5.get B9 (by simp)) _ _) _ _) _ _)];rfl
      have k9:ae [w3.heap.size] w5 V:=(by rw[hV];exact jR _ _ _ _);have Z:ae [] S V:=(by rw[hV];exact lL (K4.trans k5) (by omega) _ _ _ _);have j:=k9.get (k5.get af (by simp)) (by simp;omega);have y:=k9.get (k5.get ad (by simp)) (by simp;omega);have a2:aB V hd (gu a):=(L.XJ (w':=w5) (fun x hx=>k5.block x (L.lt hx) (by simp))).XJ (fun x hx=>k9.block x (Tw (L.lt hx) k5.size) (by simp;rintro rfl;have:=ai.lt hx;omega));rw[<-hV];clear hV t0 t1 t2 t3 yt;clear f0 f1 f2 f3;obtain⟨f0,f1,f2,f3⟩:=jQ O;obtain⟨m,n,p,q,r,t⟩:=ff j;have yr:=am j;simp only[ln]at m n p q r t;cases hf:(f.1==0)
      · have a3:(f.1 != 0)=true:=by simp[bne,hf]
        have Q:Xr (dr w H w[H] M=⟨w[H].XV,2,f.1,f.2⟩):=ci (by rw[K.o];simp[kG,hf]);clear K;(go_upto_region 16 with fail);obtain⟨X,d⟩:∃X,X=((((V.setCell ⟨i.heap.size,1,none⟩ (int i64 2)).setCell ⟨i.heap.size,2,none⟩ (int i64 f.1)).setCell ⟨i.heap.size,3,none⟩ (string f.2.XZ)).setCell ⟨i.heap.size,4,none⟩ (int i64 f.2.X0)).setCell ⟨i.heap.size,5,none⟩ (int i64 f.2.X3):=⟨_,rfl⟩
        have P:X.heap[i.heap.size]?=some (.cells (nU ⟨w[H].XV,2,f.1,f.2⟩).toArray 38):=by
          rw[d];rw[ab (ab (ab (ab (ab j _ _) _ _) _ _) _ _) _ _];rfl
        have R:ae [] S X:=(by rw[d];exact(((((Z.setCell (TE (UB b)) _).setCell (TE (UB b)) _).setCell (TE (UB b)) _).setCell (TE (UB b)) _).setCell (TE (UB b)) _));have c:X.heap[S.heap.size]?=some (.cells (nU qs).toArray 38):=by
          rw[d];rw[TM _ _ _ _ (by simp;omega)];rw[TM _ _ _ _ (by simp;omega)];rw[TM _ _ _ _ (by simp;omega)];rw[TM _ _ _ _ (by simp;omega)];rw[TM _ _ _ _ (by simp;omega)];exact y
        rw[<-d];clear d m n p q r t yr;obtain⟨m,n,p,q,r,t⟩:=ff P;obtain⟨z,A,B,C,E,F⟩:=ff c;have ys:=am c;simp only[qs,ln]at m n p q r t z A B C E F;go_wp2;exact Tz (v:=agg (nU ⟨w[H].XV,2,f.1,f.2⟩).toArray) (by simp[results,results115,go_sem,z,A,B,C,E,F,nU]) rfl ⟨by rw[Q.o],zZ R (Tq _) _ _ _ _ _ _⟩
      · have a3:(f.1 != 0)=false:=by simp[bne,hf]
        have RE:=NV N o w s D M hd a V (h.XE Z) a2 (by omega);cases hr:m8 M a
        · have Q:Xr (dr w H w[H] M=⟨w[H].XV,4,0,ln⟩):=by show _=_;rw[K.o];simp[kG,hf,HU.o,hr]
          rw[hr]at RE;clear K;(go_upto_region 6 with (go_at_call 164;refine RE.mono ?_;rintro e wv ⟨rfl,an⟩;rw[an]));(go_upto_region 16 with fail);obtain⟨X,d⟩:∃X,X=V.setCell ⟨i.heap.size,1,none⟩ (int i64 4):=⟨_,rfl⟩
          have P:X.heap[i.heap.size]?=some (.cells (nU ⟨w[H].XV,4,0,ln⟩).toArray 38):=by
            rw[d];rw[ab j _ _];rfl
          have R:ae [] S X:=(by rw[d];exact(Z.setCell (TE (UB b)) _));have c:X.heap[S.heap.size]?=some (.cells (nU qs).toArray 38):=by
            rw[d];rw[TM _ _ _ _ (by simp;omega)];exact y
          rw[<-d];clear d m n p q r t yr;obtain⟨m,n,p,q,r,t⟩:=ff P;obtain⟨z,A,B,C,E,F⟩:=ff c;have ys:=am c;simp only[qs,ln]at m n p q r t z A B C E F;go_wp2;exact Tz (v:=agg (nU ⟨w[H].XV,4,0,ln⟩).toArray) (by simp[results,results115,go_sem,z,A,B,C,E,F,nU,ln]) rfl ⟨by rw[Q.o],zZ R (Tq _) _ _ _ _ _ _⟩
        · have Q:Xr (dr w H w[H] M=⟨w[H].XV,5,0,ln⟩):=by show _=_;rw[K.o];simp[kG,hf,HU.o,hr]
          rw[hr]at RE;clear K;(go_upto_region 15 with (go_at_call 164;refine RE.mono ?_;rintro e wv ⟨rfl,an⟩;rw[an]));(go_upto_region 16 with fail);obtain⟨X,d⟩:∃X,X=V.setCell ⟨i.heap.size,1,none⟩ (int i64 5):=⟨_,rfl⟩
          have P:X.heap[i.heap.size]?=some (.cells (nU ⟨w[H].XV,5,0,ln⟩).toArray 38):=by
            rw[d];rw[ab j _ _];rfl
          have R:ae [] S X:=(by rw[d];exact(Z.setCell (TE (UB b)) _));have c:X.heap[S.heap.size]?=some (.cells (nU qs).toArray 38):=by
            rw[d];rw[TM _ _ _ _ (by simp;omega)];exact y
          rw[<-d];clear d m n p q r t yr;obtain⟨m,n,p,q,r,t⟩:=ff P;obtain⟨z,A,B,C,E,F⟩:=ff c;have ys:=am c;simp only[qs,ln]at m n p q r t z A B C E F;go_wp2;exact Tz (v:=agg (nU ⟨w[H].XV,5,0,ln⟩).toArray) (by simp[results,results115,go_sem,z,A,B,C,E,F,nU,ln]) rfl ⟨by rw[Q.o],zZ R (Tq _) _ _ _ _ _ _⟩
end
end Go.Proofs.YtnbhnocdhbcbcaaGreat
