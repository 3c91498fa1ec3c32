import Derived.Test.YtnbhnocdhbcbcaaGreatK10
namespace Go.Proofs.YtnbhnocdhbcbcaaGreat
open Go.RowKit Tryz
open Value IntKind Ending
set_option maxHeartbeats 0
variable{a y6:World}{i z7 z5:Nat}{y2:Nat->Hd}{I:List St}{z6:List Rw}(y3 y4:World)(N o H D l:Nat)(b:kD)(w:List St)(x s:Nat->Hd)(d:Xt)(k:List Bool)(y9:Hd)(zt:Nat)(z4:List Rw)(L:Hd)(n T:List Ex)(g:Nat->Hd)(y5:Pl)(ya:Xt)(f:List kD)(M:List Rw)(S:World)(y7:List Xt×List Xt)(y:Nat)
def gI(l:List St)(vs:Xt)(ms:List Bool)(sh th:List Xt)(s:kD):(Int×Xt)×List Xt :=
 if(s.Yd==3)=true then(if s.XN<sh.length then((0,sh.getD s.XN []),th) else((5,[]),th))
 else if nI l s.XN=true then(gJ l s.XN vs ms th,th.take (th.length-(aO l s.XN).length))
 else((0,(l.getD s.XN zu).XM),th)
set_option maxRecDepth 100000
theorem N9(E:E1 y3 o H D l w x s d k y9 L)(P:mV y3 y4 N o H D w.length l n T g)(hn:(b.Yd==3)=false->b.XN<w.length)(a2:b.XN<=2000000)(af:T.length<=2000000) :
  Calls prog 240 #[pointer (some ⟨N,0,none⟩),agg #[int i64 b.Yd,int i64 b.XN,string b.at_.Yi,int i64 b.at_.Yj,int i64 b.at_.Yk]] y4 fun e A=>∃(U:List Ex) (t:Ex),
   e=returned (tuple #[slice t.hd.ao t.xs.length t.hd.cap,int i64 (gI w d k (n.map Ex.xs) (T.map Ex.xs) b).1.1])/\t.xs=(gI w d k (n.map Ex.xs) (T.map Ex.xs) b).1.2/\mV y3 A N o H D w.length l n U g/\sA A N g t.hd t.xs /\
   (((gI w d k (n.map Ex.xs) (T.map Ex.xs) b).1.1==0)=true->U.map Ex.xs=(gI w d k (n.map Ex.xs) (T.map Ex.xs) b).2)/\U.length<=T.length:=by
 obtain⟨W,hW⟩:∃W,W=y4.alloc (.cells #[int i64 b.Yd,int i64 b.XN,string b.at_.Yi,int i64 b.at_.Yj,int i64 b.at_.Yk] 174):=⟨_,rfl⟩
 have kW:=fH hW.symm;have B:=f9 hW.symm;have HW:Xr _:=hW.symm;obtain⟨u0,u1,-⟩:=od B;have p:=P.XR kW;have EW:=E.XR p.Yb;obtain⟨p0,p1,p2⟩:=p.ply.ctx.cells;obtain⟨p3,p4⟩:=p.ply.cells;have a0:=p.ply.bag.lt;have a3:=aj B;clear hW;cases hk:(b.Yd==3)
 ·have j:=hn hk;have J:Xr (gI w d k (n.map Ex.xs) (T.map Ex.xs) b=if nI w b.XN=true then(gJ w b.XN d k (T.map Ex.xs),(T.map Ex.xs).take (T.length-(aO w b.XN).length)) else((0,w[b.XN].XM),T.map Ex.xs)):=by
   show _=_;unfold gI;rw[hk,Uh,Uh,Bk w _ j];rfl
  have Z:Xr (∀A,ae [] W A->A.cell? ⟨N,0,none⟩=some (pointer (some ⟨o,H,none⟩))/\A.cell? ⟨y4.heap.size,1,none⟩=some (int i64 b.XN)):=by
   intro A al;refine⟨(p.XR al).ply.ctx.cells.1,?_⟩;rw[ah (al.get B (by simp))];rfl
  have ac:Xr _:=fun(f:World) (F:ae [] W f)=>bF o H b.XN w x f (EW.XR F).recd j;have HZ:Xr (∀f,ae [] (W.alloc (.cells #[int i64 0,string ⟨#[]⟩,slice none 0 0,slice none 0 0,string ⟨#[]⟩,int i64 0,int i64 0,int i64 0] 158)).drew f->f.cell? ⟨W.heap.size,0,none⟩=some (int i64 0)/\f.cell? ⟨W.heap.size,1,none⟩=some (string ⟨#[]⟩)/\f.cell? ⟨W.heap.size,2,none⟩=some (slice none 0 0)/\f.cell? ⟨W.heap.size,3,none⟩=some (slice none 0 0)/\f.cell? ⟨W.heap.size,4,none⟩=some (string ⟨#[]⟩)/\f.cell? ⟨W.heap.size,5,none⟩=some (int i64 0)/\f.cell? ⟨W.heap.size,6,none⟩=some (int i64 0)/\f.cell? ⟨W.heap.size,7,none⟩=some (int i64 0)/\∀ap,f.frozen? ⟨W.heap.size,ap,none⟩=false):=by
   intro f al;have q:=al.get (show(W.alloc (.cells #[int i64 0,string ⟨#[]⟩,slice none 0 0,slice none 0 0,string ⟨#[]⟩,int i64 0,int i64 0,int i64 0] 158)).drew.heap[W.heap.size]?=_ from TN _ _) (by simp);refine⟨?_,?_,?_,?_,?_,?_,?_,?_,fun ap=>am q ap⟩ <;> (rw[ah q];rfl)
  have az:W.heap.size≠N:=by omega
  have aS:W.heap.size≠y4.heap.size:=by omega
  clear p1 p2 p3 p4;go_enter func240,ntmps240;go_upto_region 1 with fail
  rw[HW.o];go_upto_region 5 with fail
  go_region_held3 (fun A=>A.cell? ⟨N,0,none⟩=some (pointer (some ⟨o,H,none⟩))/\A.cell? ⟨y4.heap.size,1,none⟩=some (int i64 b.XN)) (go_keep) (first | (go_at_call 98;refine(ac.o _ (by exact(ae.refl [] W).drew)).mono ?_;rintro e f ⟨rfl,F⟩;obtain⟨x0,x1⟩:=Z.o f (kr0.drew.trans F);unfold fR) | (go_at_call 98;refine(ac.o _ (by exact((ae.refl [] W).alloc _).drew)).mono ?_;rintro e f ⟨rfl,F⟩;obtain⟨x0,x1⟩:=Z.o f (((ae.refl [] W).alloc _).drew.trans F);obtain⟨q0,q1,q2,q3,q4,q5,q6,q7,qf⟩:=HZ.o f F;unfold fR))
  ·obtain⟨X,C⟩:∃X,X=f.alloc (.cells #[int i64 w[b.XN].Yd,string w[b.XN].Ye,slice (x (10+2*b.XN)).ao w[b.XN].XM.length (x (10+2*b.XN)).cap,slice (x (11+2*b.XN)).ao w[b.XN].XY.length (x (11+2*b.XN)).cap,string w[b.XN].Yh.Yi,int i64 w[b.XN].Yh.Yj,int i64 w[b.XN].Yh.Yk,int i64 w[b.XN].til] 158):=⟨_,rfl⟩
   have G:ae [] W X:=(by rw[C];exact(kr0.drew.trans F).alloc _);have BX:=f9 C.symm;rw[<-C];clear C x0 x1 u0 u1 p0;obtain⟨m0,m1,m2,m3,m4,m5,m6,m7⟩:=wn BX;have PX:=p.XR G;obtain⟨x0,x1⟩:=Z.o X G;have c:Xr _:=Br w b.XN j;cases m:oC w[b.XN].Yd
   ·have a:Xr (gI w d k (n.map Ex.xs) (T.map Ex.xs) b=((0,w[b.XN].XM),T.map Ex.xs)):=(by show _=_;rw[J.o,c.o,m];rfl);clear J c;(go_upto_region 8 with (go_at_call 161;refine(dA w[b.XN].Yd _ _ _ _ _ _ _ _).mono ?_;rintro e Y ⟨rfl,z⟩;have K:=z.get BX (by simp)));obtain⟨-,-,an,-⟩:=wn K;have I:=E.recd.Ya.syms b.XN w[b.XN] (TF j);have kk:=(G.trans z);have r:=p.XR kk;clear m0 m1 m2 m3 m4 m5 m6 m7;go_wp2;exact TR (v:=tuple #[slice (x (10+2*b.XN)).ao w[b.XN].XM.length (x (10+2*b.XN)).cap,int i64 0]) (by simp[results,results240,go_sem]) rfl
     ⟨T,⟨x (10+2*b.XN),w[b.XN].XM⟩,by rw[a.o],by rw[a.o],r,⟨I.view.XR r.Yb,fun ar S=>⟨TP (I.lt S) r.Yb.size,by have:=I.lt S;have:=P.hb;omega,fun L=>by have:=P.hin ar L;have:=I.lt S;omega⟩⟩,fun _=>by rw[a.o],TI _⟩
   ·have a:Xr (gI w d k (n.map Ex.xs) (T.map Ex.xs) b=(gJ w b.XN d k (T.map Ex.xs),(T.map Ex.xs).take (T.length-(aO w b.XN).length))):=(by show _=_;rw[J.o,c.o,m];rfl);have O:nI w b.XN=true:=(by rw[c.o,m]);clear J c;(go_upto_region 7 with (go_at_call 161;refine(dA w[b.XN].Yd _ _ _ _ _ _ _ _).mono ?_;rintro e Y ⟨rfl,z⟩));obtain⟨y0,y1⟩:=Z.o Y (G.trans z);have r:=PX.XR z;clear m0 m1 m2 m3 m4 m5 m6 m7;go_wp2_with fail;refine(zG y3 Y N o H D l b.XN w x s d k y9 L n T g E r j O af).mono ?_;rintro e w6 ⟨V,i,rfl,y,P6,F6,R,Q⟩;have M:Xr _:=y;clear y;go_wp2;exact TR (v:=tuple #[slice i.hd.ao i.xs.length i.hd.cap,int i64 (gJ w b.XN d k (T.map Ex.xs)).1]) (by simp[results,results240,go_sem]) rfl
     ⟨V,i,by rw[a.o],by rw[a.o];exact M.o,P6,F6,fun hh=>by rw[a.o]at hh ⊢;rw[R hh,WU],Q⟩
  ·obtain⟨X,C⟩:∃X,X=(((((((f.setCell ⟨W.heap.size,0,none⟩ (int i64 w[b.XN].Yd)).setCell ⟨W.heap.size,1,none⟩ (string w[b.XN].Ye)).setCell ⟨W.heap.size,2,none⟩ (slice (x (10+2*b.XN)).ao w[b.XN].XM.length (x (10+2*b.XN)).cap)).setCell ⟨W.heap.size,3,none⟩ (slice (x (11+2*b.XN)).ao w[b.XN].XY.length (x (11+2*b.XN)).cap)).setCell ⟨W.heap.size,4,none⟩ (string w[b.XN].Yh.Yi)).setCell ⟨W.heap.size,5,none⟩ (int i64 w[b.XN].Yh.Yj)).setCell ⟨W.heap.size,6,none⟩ (int i64 w[b.XN].Yh.Yk)).setCell ⟨W.heap.size,7,none⟩ (int i64 w[b.XN].til):=⟨_,rfl⟩
   have ag:=(((ae.refl [] W).alloc _).drew.trans F);have ai:=F.get (show(W.alloc (.cells #[int i64 0,string ⟨#[]⟩,slice none 0 0,slice none 0 0,string ⟨#[]⟩,int i64 0,int i64 0,int i64 0] 158)).drew.heap[W.heap.size]?=_ from TN _ _) (by simp);have G:ae [] W X:=(by rw[C];exact(((((((ag.sr1 (TI _) _).sr1 (TI _) _).sr1 (TI _) _).sr1 (TI _) _).sr1 (TI _) _).sr1 (TI _) _).sr1 (TI _) _).sr1 (TI _) _);have BX:X.heap[W.heap.size]?=some (.cells #[int i64 w[b.XN].Yd,string w[b.XN].Ye,slice (x (10+2*b.XN)).ao w[b.XN].XM.length (x (10+2*b.XN)).cap,slice (x (11+2*b.XN)).ao w[b.XN].XY.length (x (11+2*b.XN)).cap,string w[b.XN].Yh.Yi,int i64 w[b.XN].Yh.Yj,int i64 w[b.XN].Yh.Yk,int i64 w[b.XN].til] 158):=by
    rw[C,ab (ab (ab (ab (ab (ab (ab (ab ai _ _) _ _) _ _) _ _) _ _) _ _) _ _)];rfl
   rw[<-C];clear C x0 x1 u0 u1 p0 q0 q1 q2 q3 q4 q5 q6 q7 qf ag ai;obtain⟨m0,m1,m2,m3,m4,m5,m6,m7⟩:=wn BX;have PX:=p.XR G;obtain⟨x0,x1⟩:=Z.o X G;have c:Xr _:=Br w b.XN j;cases m:oC w[b.XN].Yd
   ·have a:Xr (gI w d k (n.map Ex.xs) (T.map Ex.xs) b=((0,w[b.XN].XM),T.map Ex.xs)):=(by show _=_;rw[J.o,c.o,m];rfl);clear J c;(go_upto_region 8 with (go_at_call 161;refine(dA w[b.XN].Yd _ _ _ _ _ _ _ _).mono ?_;rintro e Y ⟨rfl,z⟩;have K:=z.get BX (by simp)));obtain⟨-,-,an,-⟩:=wn K;have I:=E.recd.Ya.syms b.XN w[b.XN] (TF j);have kk:=(G.trans z);have r:=p.XR kk;clear m0 m1 m2 m3 m4 m5 m6 m7;go_wp2;exact TR (v:=tuple #[slice (x (10+2*b.XN)).ao w[b.XN].XM.length (x (10+2*b.XN)).cap,int i64 0]) (by simp[results,results240,go_sem]) rfl
     ⟨T,⟨x (10+2*b.XN),w[b.XN].XM⟩,by rw[a.o],by rw[a.o],r,⟨I.view.XR r.Yb,fun ar S=>⟨TP (I.lt S) r.Yb.size,by have:=I.lt S;have:=P.hb;omega,fun L=>by have:=P.hin ar L;have:=I.lt S;omega⟩⟩,fun _=>by rw[a.o],TI _⟩
   ·have a:Xr (gI w d k (n.map Ex.xs) (T.map Ex.xs) b=(gJ w b.XN d k (T.map Ex.xs),(T.map Ex.xs).take (T.length-(aO w b.XN).length))):=(by show _=_;rw[J.o,c.o,m];rfl);have O:nI w b.XN=true:=(by rw[c.o,m]);clear J c;(go_upto_region 7 with (go_at_call 161;refine(dA w[b.XN].Yd _ _ _ _ _ _ _ _).mono ?_;rintro e Y ⟨rfl,z⟩));obtain⟨y0,y1⟩:=Z.o Y (G.trans z);have r:=PX.XR z;clear m0 m1 m2 m3 m4 m5 m6 m7;go_wp2_with fail;refine(zG y3 Y N o H D l b.XN w x s d k y9 L n T g E r j O af).mono ?_;rintro e w6 ⟨V,i,rfl,y,P6,F6,R,Q⟩;have M:Xr _:=y;clear y;go_wp2;exact TR (v:=tuple #[slice i.hd.ao i.xs.length i.hd.cap,int i64 (gJ w b.XN d k (T.map Ex.xs)).1]) (by simp[results,results240,go_sem]) rfl
     ⟨V,i,by rw[a.o],by rw[a.o];exact M.o,P6,F6,fun hh=>by rw[a.o]at hh ⊢;rw[R hh,WU],Q⟩
 ·have a1:decide ((b.XN:Int)<0)=false:=by simp
  by_cases u:b.XN<n.length
  ·have a:Xr (gI w d k (n.map Ex.xs) (T.map Ex.xs) b=((0,n[b.XN].xs),T.map Ex.xs)):=by
    show _=_;unfold gI;rw[hk,TJ rfl,Uh,TJ u,TG];simp[u]
   have ax:(b.XN:Int)<n.length:=(by omega);have oS:aB W (g 0) (ig n):=p.ply.bag.Ym 0;rcases oS.X9 with ⟨_,h0,_⟩ | ⟨gs,av,es,-,aT,-⟩
   ·have:n.length=0:=h0;omega
   have cs:=oS.cell es b.XN (xx n[b.XN]) (tT n b.XN u);have ad:=(p.ply.shs n[b.XN] (Ue u)).1;rw[es]at p3;unfold xx at cs;generalize n[b.XN]=t at *;clear p0 p1 p2 p4 oS es;go_enter func240,ntmps240;(go_upto_region 1 with fail);rw[HW.o];(go_upto_region 2 with fail);go_quiet (fail);(go_upto_region 4 with fail);go_quiet (fail);go_wp2;exact TR (v:=tuple #[slice t.hd.ao t.xs.length t.hd.cap,int i64 0]) (by simp[results,results240,go_sem]) rfl
    ⟨T,t,by rw[a.o],by rw[a.o],p.XR ((kr0.drewN _).drewN _),ad.XR ((kr0.drewN _).drewN _),fun _=>by rw[a.o],TI _⟩
  ·have a:Xr (gI w d k (n.map Ex.xs) (T.map Ex.xs) b=((5,[]),T.map Ex.xs)):=by
    show _=_;unfold gI;rw[hk,TJ rfl,Uh,TH u]
   clear p0 p1 p2 p4;go_enter func240,ntmps240;(go_upto_region 1 with fail);rw[HW.o];(go_upto_region 2 with fail);go_quiet (fail);go_wp2;exact TR (v:=tuple #[slice none 0 0,int i64 5]) (by simp[results,results240,go_sem]) rfl
    ⟨T,⟨⟨none,0⟩,[]⟩,by rw[a.o];rfl,by rw[a.o],p.XR (kr0.drewN _),tU _ _ _,by rw[a.o];simp,TI _⟩
def km(l:List St)(vs:Xt)(ms:List Bool)(S:List Xt×List Xt)(s:kD):Int×List Xt×List Xt :=
 if((gI l vs ms S.1 S.2 s).1.1==0)=true then
  (if(gI l vs ms S.1 S.2 s).1.2.length<=32 then(0,S.1++[(gI l vs ms S.1 S.2 s).1.2],(gI l vs ms S.1 S.2 s).2++[(gI l vs ms S.1 S.2 s).1.2]) else(10,S))
 else((gI l vs ms S.1 S.2 s).1.1,S)
theorem mV.turned{l:World}{g n k:Nat}{q r b c:List Ex}{f:Nat->Hd}(h:mV a y6 i z7 z5 g n k q r y2)(t:aD i y6 y2 l f)(j:bG l i 307 (iU z7 z5 g n k b c f) (qk b c) f)(m:∀e∈b,sA y6 i y2 e.hd e.xs/\e.xs.length<=32)(o:∀e∈c,sA y6 i y2 e.hd e.xs/\e.xs.length<=32):mV a l i z7 z5 g n k b c f:=by
 refine⟨⟨j,fun e d=>⟨(m e d).1.turned t,(m e d).2⟩,fun e d=>⟨(o e d).1.turned t,(o e d).2⟩⟩,h.Yb.ofP t.1 ?_,h.hb,fun x p=>?_⟩
 ·rintro x (e | e)
  ·have:=h.hb;omega
  ·exact h.hin x e
 ·rcases t.2 x p with e | e
  ·exact h.hin x e
  ·exact TV h.Yb.size e
theorem NE(E:E1 y3 o H D l w x s d k y9 L)(P:mV y3 y4 N o H D w.length l n T g)(hn:(b.Yd==3)=false->b.XN<w.length)(az:b.XN<=2000000)(aS:T.length<=2000000)(a1:n.length<=2000000) :
  Calls prog 211 #[pointer (some ⟨N,0,none⟩),agg #[int i64 b.Yd,int i64 b.XN,string b.at_.Yi,int i64 b.at_.Yj,int i64 b.at_.Yk]] y4 fun e w'=>∃(R S:List Ex) (H':Nat->Hd),
   e=returned (int i64 (km w d k (n.map Ex.xs,T.map Ex.xs) b).1)/\mV y3 w' N o H D w.length l R S H' /\
   (((km w d k (n.map Ex.xs,T.map Ex.xs) b).1==0)=true->(R.map Ex.xs,S.map Ex.xs)=(km w d k (n.map Ex.xs,T.map Ex.xs) b).2)/\S.length<=T.length+1/\R.length<=n.length+1:=by
 obtain⟨i1,Z,ai,al,an⟩:=Ul Na;obtain⟨W,hW⟩:∃W,W=y4.alloc (.cells #[int i64 b.Yd,int i64 b.XN,string b.at_.Yi,int i64 b.at_.Yj,int i64 b.at_.Yk] 174):=⟨_,rfl⟩
 have kW:=fH hW.symm;have B:=f9 hW.symm;have HW:Xr _:=hW.symm;obtain⟨u0,u1,u2,u3,u4⟩:=od B;have PW:=P.XR kW;have Y:=N9 y3 W N o H D l b w x s d k y9 L n T g E PW hn az aS;have V:Xr (∀q,gI w d k (n.map Ex.xs) (T.map Ex.xs) b=q->km w d k (n.map Ex.xs,T.map Ex.xs) b=if(q.1.1==0)=true then(if q.1.2.length<=32 then(0,n.map Ex.xs++[q.1.2],q.2++[q.1.2]) else(10,n.map Ex.xs,T.map Ex.xs)) else(q.1.1,n.map Ex.xs,T.map Ex.xs)):=by
  intro q z;subst z;rfl
 have t:Xr _:=V.o _ rfl;generalize gI w d k (n.map Ex.xs) (T.map Ex.xs) b=Q at *;obtain⟨⟨q,xs⟩,t2⟩:=Q;simp only at Y t;clear hW V B;go_enter func211,ntmps211;go_upto_region 1 with fail
 rw[HW.o];go_wp2_with fail;refine Y.mono ?_;rintro e w2 ⟨c,a,rfl,aT,J,F2,ac,a0⟩;subst aT;cases z:(q==0)
 ·have av:(q != 0)=true:=by simp[bne,z]
  have A:Xr (km w d k (n.map Ex.xs,T.map Ex.xs) b=(q,n.map Ex.xs,T.map Ex.xs)):=cg (by rw[t.o,z];rfl);clear t Y u0 u1 u2 u3 u4;go_wp2;go_ret;exact⟨n,c,g,au (by rw[A.o]),J,fun hh=>by rw[A.o]at hh;exact absurd (z.symm.trans hh) (by simp),by omega,by omega⟩
 ·have av:(q != 0)=false:=by simp[bne,z]
  by_cases y:a.xs.length<=32
  ·have ar:¬((a.xs.length:Int) > 32):=(by omega);have A:Xr (km w d k (n.map Ex.xs,T.map Ex.xs) b=(0,n.map Ex.xs++[a.xs],t2++[a.xs])):=cg (by rw[t.o,z,TJ rfl,TJ y]);have ap:Xr _:=ac z;clear t Y u0 u1 u2 u3 u4 ac;(go_upto_region 6 with fail);have D2:=J.ply.bag;have p3:=J.ply.cells.1;have M:=D2.XR ((ae.refl [] w2).alloc (.cells #[slice a.hd.ao a.xs.length a.hd.cap] 61));have ax:Xr (∀j,j≠0->qk (n++[a]) c j=qk n c j):=by
    intro j r
    match j,r with
    | 0,r=>exact absurd rfl r
    | 1,_=>rfl
    | m+2,_=>rfl
   have ad:Xr (∀j,j≠1->qk (n++[a]) (c++[a]) j=qk (n++[a]) c j):=by
    intro j r
    match j,r with
    | 0,_=>rfl
    | 1,r=>exact absurd rfl r
    | m+2,_=>rfl
   go_wp2_with (at_builtin;refine aL _ rfl (.tmp 23) (.tmp 25) 218 rfl i1 (slice none 0 0) 24 (g 0) (ig n) underlying218 Z ai al an rfl Ug rfl (by exact M.Ym 0) ⟨_,0,none⟩ 1 1 [slice a.hd.ao a.xs.length a.hd.cap] rfl rfl ?e1 ?e2 Ug ?e3 ?e4 ?_)
   case e1=>intro j u r;match j,r with | 0,r=>simp at r;subst r;simp[Addr.add]
   case e2=>intro u hu;simp at hu;subst hu;rfl
   case e3=>simp only[ig];unfold maxLen;omega
   case e4=>simp only[ig];omega
   intro K f w4 af F i;obtain⟨k4,f4,I⟩:=M.app (cs':=iU o H D w.length l (n++[a]) c (iJ g 0 ⟨some ⟨K,0,none⟩,f⟩)) (rows':=qk (n++[a]) c) 3 0 K f ((ig n).n+1) _ af (vu n a) F (by simpa using i) ax.o (slice (g 0).ao n.length (g 0).cap) rfl (by simp[iU,iJ,ig]);clear af F i M p3;(go_upto_region 7 with fail);generalize hX:w4.setCell ⟨N,3,none⟩ (slice (some ⟨K,0,none⟩) ((ig n).n+1) f)=X at I ⊢;have DX:=I.o.1;have TX:Xr _:=I.o.2.first (kr0.alloc _);have p4:=DX.cell 4;simp only[iU,List.getElem?_cons_succ,List.getElem?_cons_zero]at p4;have O:=DX.XR ((ae.refl [] X).alloc (.cells #[slice a.hd.ao a.xs.length a.hd.cap] 61));clear hX k4 f4;go_wp2_with (at_builtin;refine aL _ rfl (.tmp 33) (.tmp 35) 218 rfl i1 (slice none 0 0) 24 (iJ g 0 ⟨some ⟨K,0,none⟩,f⟩ 1) (ig c) underlying218 Z ai al an rfl Ug rfl (by exact O.Ym 1) ⟨_,0,none⟩ 1 1 [slice a.hd.ao a.xs.length a.hd.cap] rfl rfl ?e1 ?e2 Ug ?e3 ?e4 ?_)
   case e1=>intro j u r;match j,r with | 0,r=>simp at r;subst r;simp[Addr.add]
   case e2=>intro u hu;simp at hu;subst hu;rfl
   case e3=>simp only[ig];unfold maxLen;omega
   case e4=>simp only[ig];omega
   intro g6 C w6 ag G p;obtain⟨k6,f6,U⟩:=O.app (cs':=iU o H D w.length l (n++[a]) (c++[a]) (iJ (iJ g 0 ⟨some ⟨K,0,none⟩,f⟩) 1 ⟨some ⟨g6,0,none⟩,C⟩)) (rows':=qk (n++[a]) (c++[a])) 4 1 g6 C ((ig c).n+1) _ ag (vu c a) G (by simpa using p) ad.o (slice (iJ g 0 ⟨some ⟨K,0,none⟩,f⟩ 1).ao c.length (iJ g 0 ⟨some ⟨K,0,none⟩,f⟩ 1).cap) rfl (by simp[iU,iJ,ig]);have T6:Xr _:=aD.trans TX.o (U.o.2.first (kr0.alloc _));clear ag G p O p4;go_wp2;go_ret;refine⟨n++[a],c++[a],_,au (by rw[A.o]),J.turned T6.o U.o.1 (fun e v=>?_) (fun e v=>?_),fun _=>by rw[A.o];simp[ap.o],by simp;omega,by simp⟩
   ·rw[Ut]at v;rcases v with v | v
    ·exact J.ply.shs e v
    ·simp at v;subst v;exact⟨F2,y⟩
   ·rw[Ut]at v;rcases v with v | v
    ·exact J.ply.ths e v
    ·simp at v;subst v;exact⟨F2,y⟩
  ·have ar:(a.xs.length:Int) > 32:=(by omega);have A:Xr (km w d k (n.map Ex.xs,T.map Ex.xs) b=(10,n.map Ex.xs,T.map Ex.xs)):=cg (by rw[t.o,z,TJ rfl,TH y]);clear t Y u0 u1 u2 u3 u4;go_wp2;go_ret;exact⟨n,c,g,au (by rw[A.o]),J,by rw[A.o];simp,by omega,by omega⟩
def Du(Yh:Pl)(goal:Xt)(th:List Xt):pu :=
 match th with
 | []=>(12,Yh)
 | [x]=>if zm x goal=true then cY else(12,Yh)
 | _ :: _ :: _=>(11,Yh)
def kB(l:List St)(vs:Xt)(ms:List Bool)(Yh:Pl)(goal:Xt):List kD->List Xt×List Xt->pu
 | [],S=>Du Yh goal S.2
 | s :: r,S=>if((km l vs ms S s).1==0)=true then kB l vs ms Yh goal r (km l vs ms S s).2 else((km l vs ms S s).1,s.at_)
def fQ(l:List St)(a:Nat)(s:St)(steps:List kD):pu:=kB l (rQ l a) (go l a (rQ l a)) s.Yh s.XM steps ([],[])
theorem Gb(a:y<f.length) :
  kB w d k y5 ya (f.drop y) y7=if((km w d k y7 f[y]).1==0)=true then kB w d k y5 ya (f.drop (y+1)) (km w d k y7 f[y]).2 else((km w d k y7 f[y]).1,f[y].at_):=by
 rw[Uj a];rfl
theorem DQ(a:¬y<f.length) :
  kB w d k y5 ya (f.drop y) y7=Du y5 ya y7.2:=by
 rw[U7 (by omega)];rfl
theorem Ls(l:List kD)(k:Nat)(a:k<l.length)(j:Nat)(d:j<5):(yK l)[k*5+j]?=(lO l[k])[j]?:=by
 induction l generalizing k with
 | nil=>simp at a
 | cons s r c =>
  have e:yK (s :: r)=lO s++yK r:=rfl;rw[e];cases k with
  | zero=>rw[Uf (by simp[lO];omega)];simp
  | succ k =>
   rw[Ua (by simp[lO];omega)];have b:(k+1)*5+j-(lO s).length=k*5+j:=by simp[lO];omega
   rw[b,c k (by simpa using a)];rfl
theorem aB.step{h:Hd}{l:List kD}(o:aB a h (gu l))(k:Nat)(n:k<l.length) :
  ∃g,h.ao=some ⟨g,0,none⟩/\l.length<=h.cap/\h.cap<=9223372036854775807/\a.cell? ⟨g,k*5,none⟩=some (int i64 l[k].Yd)/\a.cell? ⟨g,k*5+1,none⟩=some (int i64 l[k].XN)/\a.cell? ⟨g,k*5+2,none⟩=some (string l[k].at_.Yi)/\a.cell? ⟨g,k*5+3,none⟩=some (int i64 l[k].at_.Yj)/\a.cell? ⟨g,k*5+4,none⟩=some (int i64 l[k].at_.Yk):=by
 rcases o.X9 with ⟨_,i,_⟩ | ⟨g,e,b,q,f,d,-⟩
 ·have:l.length=0:=i;omega
 ·have c:=fun j (m:j<5) v (p:(lO l[k])[j]?=some v)=>o.cell b (k*5+j) v ((Ls l k n j m).trans p);exact⟨g,b,f,by unfold maxLen at d;exact d,c 0 (by omega) _ rfl,c 1 (by omega) _ rfl,c 2 (by omega) _ rfl,c 3 (by omega) _ rfl,c 4 (by omega) _ rfl⟩
structure Hz(l:List St)(steps:List kD):Prop where
 len:steps.length<=1100000
 num:∀s∈steps,s.XN<=2000000
 named:∀s∈steps,(s.Yd==3)=false->s.XN<l.length
theorem LZ(hr:fL S o H w x)(ok:jV w)(ha:l<w.length)(an:iH S D w w.length s)(hO:aB S L (gu f))(O:Hz w f) :
  Calls prog 163 #[pointer (some ⟨o,H,none⟩),int i64 l,slice (some ⟨D,0,none⟩) w.length w.length,slice L.ao f.length L.cap] S fun e a =>
   e=returned (iw (fQ w l w[l] f))/\ae [] S a:=by
 have a3:=ok.len;have bf:=O.len;have bl:=ok.syms l ha;obtain⟨AO,ad⟩:=bq (L.ao);rw[ad.o];obtain⟨W,hW⟩:∃W,W=S.alloc (.cells #[int i64 0,string ⟨#[]⟩,int i64 0,int i64 0] 165):=⟨_,rfl⟩
 have kW:=fH hW.symm;have BF:W.heap[S.heap.size]?=some (.cells bK 165):=by rw[hW];exact TN _ _
 have HW:Xr _:=hW.symm;have bk:(rQ w l).length<=w.length:=CI w l w.length;clear hW;go_enter func163,ntmps163;go_upto_region 1 with fail
 rw[HW.o];go_upto_region 2 with (go_at_call 209;refine(rP o H l w x _ (by exact hr.XR kW) ok).mono ?_;rintro e w2 ⟨a0,rfl,aS,a6,k2⟩)
 have K2:=kW.trans k2;go_wp2_with (go_at_call 210;refine(Mj o H l w x a0 (rQ w l) _ (by exact hr.XR K2) ok (by exact aS) (by omega)).mono ?_;rintro e n ⟨tb,hv,hm,rfl,A3,bg,bd,k3⟩);have K3:=K2.trans k3;have ac:=(k2.trans k3).get BF (by simp);have E:E1 n o H D tb w x s (rQ w l) (go w l (rQ w l)) hv hm:=⟨hr.XR K3,ok,an.XR K3,A3,mB _ _ _ _,by omega⟩;have G:aB n L (gu f):=hO.XX (fun b R=>K3.block b (hO.lt R) (by simp));have P4:mV n (n.alloc (.cells #[pointer (some ⟨o,H,none⟩),slice (some ⟨D,0,none⟩) w.length w.length,pointer (some ⟨tb,0,none⟩),slice none 0 0,slice none 0 0] 307)) n.heap.size o H D w.length tb [] [] nN:=by
  refine⟨⟨⟨TN _ _,?_,fun i j _=>TZ rfl,fun i e=>by simp[nN,Hd.Yc]at e⟩,by simp,by simp⟩,kr0.alloc _,TI _,fun b R=>by obtain⟨i,hi⟩:=R;simp[nN,Hd.Yc]at hi⟩;intro i
  match i with
  | 0=>exact TQ _ _ _ _
  | 1=>exact TQ _ _ _ _
  | m+2=>exact TQ _ _ _ _
 go_loopg [11] f.length (fun gk iv wr=>∃(i:Nat) (J g:List Ex) (N:Nat->Hd),i<=f.length/\gk=f.length-i/\iv=int i64 i/\J.length<=i/\g.length<=i/\Xr (fQ w l w[l] f=kB w (rQ w l) (go w l (rQ w l)) w[l].Yh w[l].XM (f.drop i) (J.map Ex.xs,g.map Ex.xs))/\mV n wr n.heap.size o H D w.length tb J g N)
 ·exact⟨0,[],[],nN,by omega,by omega,rfl,by simp,by simp,rfl,P4⟩
 obtain⟨i,J,g,N,hi,hg,rfl,be,bj,hR,P⟩:=hrel;clear P4;have B:=P.Yb.get ac (by simp);obtain⟨p,r,t,u⟩:=dy B;have K:=am B;have KW:=K3.trans P.Yb;by_cases d:i<f.length
 ·have ai:aB wr L (gu f):=G.XX (fun b R=>P.Yb.block b (G.lt R) (by simp));obtain⟨gp,ep,a2,az,d0,d1,d2,d3,d4⟩:=ai.step i d;obtain rfl:AO=some ⟨gp,0,none⟩:=ad.o.symm.trans ep;have h1:=O.num f[i] (Ue d);have h2:=O.named f[i] (Ue d);have c:Xr _:=hR.o.trans (Gb w (rQ w l) (go w l (rQ w l)) w[l].Yh w[l].XM f (J.map Ex.xs,g.map Ex.xs) i d);have PA:=NE n wr n.heap.size o H D tb f[i] w x s (rQ w l) (go w l (rQ w l)) hv hm J g N E P h2 h1 (by omega) (by omega);have af:Xr (∀a,ae [] n a->a.cell? ⟨gp,i*5+2,none⟩=some (string f[i].at_.Yi)/\a.cell? ⟨gp,i*5+3,none⟩=some (int i64 f[i].at_.Yj)/\a.cell? ⟨gp,i*5+4,none⟩=some (int i64 f[i].at_.Yk)):=by
   intro a k;obtain⟨a5,ag,-,-,-,-,q2,q3,q4⟩:=(G.XX (w':=a) (fun b R=>k.block b (G.lt R) (by simp))).step i d;rw[ep]at ag;cases ag
   exact⟨q2,q3,q4⟩
  clear hR ep ai;generalize f[i]=st at *;obtain⟨sk,sn,U,V,T⟩:=st;simp only at d0 d1 d2 d3 d4 PA af c;generalize km w (rQ w l) (go w l (rQ w l)) (J.map Ex.xs,g.map Ex.xs) ⟨sk,sn,⟨U,V,T⟩⟩=Q at *;obtain⟨q,Q2⟩:=Q;simp only at PA c;cases hq:(q==0)
  ·have aT:(q != 0)=true:=(by simp[bne,hq]);have z:Xr (fQ w l w[l] f=(q,⟨U,V,T⟩)):=cg (by rw[c.o,TH (by rw[hq];simp)]);clear c;(go_upto_region 8 with (go_at_call 211;refine PA.mono ?_;rintro e Y ⟨ar,av,H5,rfl,P5,al,-,-⟩));obtain⟨c2,c3,c4⟩:=af.o Y P5.Yb;have M:=P5.Yb.get ac (by simp);clear p r t u K d0 d1 d2 d3 d4;obtain⟨p,r,t,u⟩:=dy M;have K:=am M;have K5:=K3.trans P5.Yb;go_wp2;exact TR (v:=agg #[int i64 q,string U,int i64 V,int i64 T]) (by simp[results,results163,go_sem,p,r,t,u]) rfl
    ⟨by rw[z.o];rfl,lL (F:=S.heap.size) K5 (TI _) _ _ _ _⟩
  ·have aT:(q != 0)=false:=(by simp[bne,hq]);have z:Xr (fQ w l w[l] f=kB w (rQ w l) (go w l (rQ w l)) w[l].Yh w[l].XM (f.drop (i+1)) Q2):=cg (by rw[c.o,TJ hq]);clear c;go_wp2_with (go_at_call 211;refine PA.mono ?_;rintro e Y ⟨ar,av,H5,rfl,P5,al,ba,bc⟩);go_roundg (f.length-(i+1))
   ·exact⟨i+1,ar,av,H5,by omega,rfl,by go_num,by omega,by omega,by show _=_;rw[al hq];exact z.o,P5⟩
   omega
 ·have Z:Xr _:=hR.o.trans (DQ w (rQ w l) (go w l (rQ w l)) w[l].Yh w[l].XM f (J.map Ex.xs,g.map Ex.xs) i d);have Er:=E.XR P.Yb;clear hR;go_upto_region 10 with (go_at_call 98;refine(bF o H l w x _ (by exact Er.recd) ha).mono ?_;rintro e Y ⟨rfl,k5⟩;unfold fR)
  obtain⟨X,hX⟩:∃X,X=Y.alloc (.cells #[int i64 w[l].Yd,string w[l].Ye,slice (x (10+2*l)).ao w[l].XM.length (x (10+2*l)).cap,slice (x (11+2*l)).ao w[l].XY.length (x (11+2*l)).cap,string w[l].Yh.Yi,int i64 w[l].Yh.Yj,int i64 w[l].Yh.Yk,int i64 w[l].til] 158):=⟨_,rfl⟩
  have kX:ae [] wr X:=by rw[hX];exact k5.alloc _
  have BX:=f9 hX.symm;rw[<-hX];have PX:=P.XR kX;have M:=kX.get B (by simp);clear hX p r t u K;obtain⟨p,r,t,u⟩:=dy M;have K:=am M;have KX:=KW.trans kX;obtain⟨-,-,m2,-,m4,m5,m6,-⟩:=wn BX;have p4:=PX.ply.cells.2;rcases g with _ | ⟨b,g⟩
  ·have z:Xr (fQ w l w[l] f=(12,w[l].Yh)):=Z.o;simp only[List.length_nil]at p4;clear Z;(go_upto_region 12 with fail);go_quiet (fail);go_wp2;exact TR (v:=agg #[int i64 12,string w[l].Yh.Yi,int i64 w[l].Yh.Yj,int i64 w[l].Yh.Yk]) (by simp[results,results163,go_sem,p,r,t,u]) rfl
    ⟨by rw[z.o];rfl,lL (F:=S.heap.size) (KX.drewN _) (TI _) _ _ _ _⟩
  ·rcases g with _ | ⟨y,g⟩
   ·have hE:fQ w l w[l] f=if zm b.xs w[l].XM=true then cY else(12,w[l].Yh):=Z.o;have A:Xr _:=hE;have oT:aB X (N 1) (ig [b]):=PX.ply.bag.Ym 1;rcases oT.X9 with ⟨_,h0,_⟩ | ⟨gt,a1,et,-,a4,-⟩
    ·simp[ig]at h0
    have ct:=oT.cell et 0 (xx b) rfl;unfold xx at ct;rw[et]at p4;simp only[List.length_cons,List.length_nil]at p4;have ap:=(PX.ply.ths b (by simp));have C:Xr _:=fun(a:World) (k:ae [] X a)=>zN b.hd (x (10+2*l)) b.xs w[l].XM a (ap.1.view.XR k) (((Er.XR (kX.trans k)).recd.Ya.syms l w[l] (TF ha)).view) (by omega) (by omega);have HC:Xr (∀a,ae [] X a->a.cell? ⟨n.heap.size,4,none⟩=some (slice (some ⟨gt,0,none⟩) 1 (N 1).cap)/\a.cell? ⟨gt,0,none⟩=some (slice b.hd.ao b.xs.length b.hd.cap)/\a.cell? ⟨Y.heap.size,2,none⟩=some (slice (x (10+2*l)).ao w[l].XM.length (x (10+2*l)).cap)):=by
     intro a k;refine⟨?_,((PX.XR k).ply.bag.Ym 1).cell et 0 (xx b) rfl,?_⟩
     ·rw[<-et];exact(PX.XR k).ply.cells.2
     ·rw[ah (k.get BX (by simp))];rfl
    clear hE Z et oT;(go_upto_region 12 with fail);cases I:zm b.xs w[l].XM
    ·have z:Xr (fQ w l w[l] f=(12,w[l].Yh)):=(by show _=_;rw[A.o,I];rfl);rw[I]at C;clear A;go_region_held3 (fun a=>a.cell? ⟨n.heap.size,4,none⟩=some (slice (some ⟨gt,0,none⟩) 1 (N 1).cap)/\a.cell? ⟨gt,0,none⟩=some (slice b.hd.ao b.xs.length b.hd.cap)/\a.cell? ⟨Y.heap.size,2,none⟩=some (slice (x (10+2*l)).ao w[l].XM.length (x (10+2*l)).cap)) (go_keep) (first | (go_at_call 212;refine(C.o _ (by exact(ae.refl [] X).drew)).mono ?_;rintro e w6 ⟨rfl,k6⟩;obtain⟨x0,x1,x2⟩:=HC.o w6 ((ae.refl [] X).drew.trans k6)))
     all_goals
      have kk:=((ae.refl [] X).drew.trans k6);have ax:=kk.get BX (by simp);have B6:=kk.get M (by simp);clear p r t u K m2 m4 m5 m6 p4 ct;obtain⟨p,r,t,u⟩:=dy B6;have K:=am B6;obtain⟨-,-,-,-,m4,m5,m6,-⟩:=wn ax;go_wp2;exact TR (v:=agg #[int i64 12,string w[l].Yh.Yi,int i64 w[l].Yh.Yj,int i64 w[l].Yh.Yk]) (by simp[results,results163,go_sem,p,r,t,u]) rfl ⟨by rw[z.o];rfl,lL (F:=S.heap.size) (KX.trans kk) (TI _) _ _ _ _⟩
    ·have z:Xr (fQ w l w[l] f=cY):=(by show _=_;rw[A.o,I];rfl);rw[I]at C;clear A;go_region_held3 (fun a=>a.cell? ⟨n.heap.size,4,none⟩=some (slice (some ⟨gt,0,none⟩) 1 (N 1).cap)/\a.cell? ⟨gt,0,none⟩=some (slice b.hd.ao b.xs.length b.hd.cap)/\a.cell? ⟨Y.heap.size,2,none⟩=some (slice (x (10+2*l)).ao w[l].XM.length (x (10+2*l)).cap)) (go_keep) (first | (go_at_call 212;refine(C.o _ (by exact(ae.refl [] X).drew)).mono ?_;rintro e w6 ⟨rfl,k6⟩;obtain⟨x0,x1,x2⟩:=HC.o w6 ((ae.refl [] X).drew.trans k6)))
     all_goals
      have kk:=((ae.refl [] X).drew.trans k6);have B6:=kk.get M (by simp);clear p r t u K m2 m4 m5 m6 p4 ct;obtain⟨p,r,t,u⟩:=dy B6;have K:=am B6;go_wp2;exact TR (v:=agg #[int i64 0,string ⟨#[]⟩,int i64 0,int i64 0]) (by simp[results,results163,go_sem,p,r,t,u]) rfl ⟨by rw[z.o];rfl,lL (F:=S.heap.size) (KX.trans kk) (TI _) _ _ _ _⟩
   ·have z:Xr (fQ w l w[l] f=(11,w[l].Yh)):=Z.o;have a7:((g.length:Int)+1+1 > 1):=(by omega);simp only[List.length_cons]at p4;clear Z;go_wp2;exact TR (v:=agg #[int i64 11,string w[l].Yh.Yi,int i64 w[l].Yh.Yj,int i64 w[l].Yh.Yk]) (by simp[results,results163,go_sem,p,r,t,u]) rfl
     ⟨by rw[z.o];rfl,lL (F:=S.heap.size) KX (TI _) _ _ _ _⟩
structure jB(w:World)(b o:Nat)(l:List St)(H:Nat->Hd)(g:Nat)(L:List Rw):Prop where
 recd:fL w b o l H
 cell:∃arr t,w.heap[b]?=some (.cells arr t)/\arr[o+2]?=some (slice (some ⟨g,0,none⟩) L.length L.length)
 arr:w.heap[g]?=some (.cells (lH L).toArray 38)
theorem jB.XR(h:jB a i z7 I y2 z5 z6)(k:ae [] a y6):jB y6 i z7 I y2 z5 z6:=by
 obtain⟨b,t,c,d⟩:=h.cell;exact⟨h.recd.XR k,⟨b,t,k.get c (by simp),d⟩,k.get h.arr (by simp)⟩
theorem jB.at2(h:jB a i z7 I y2 z5 z6):a.cell? ⟨i,z7+2,none⟩=some (slice (some ⟨z5,0,none⟩) z6.length z6.length):=by
 obtain⟨b,t,c,d⟩:=h.cell;rw[ah c];exact d
theorem jB.row(h:jB a i z7 I y2 z5 z6)(k:Nat)(d:k<z6.length) :
  a.cell? ⟨z5,k*6,none⟩=some (string z6[k].Ye)/\a.cell? ⟨z5,k*6+1,none⟩=some (int i64 z6[k].XS)/\a.cell? ⟨z5,k*6+2,none⟩=some (int i64 z6[k].why)/\a.cell? ⟨z5,k*6+3,none⟩=some (string z6[k].at_.Yi)/\a.cell? ⟨z5,k*6+4,none⟩=some (int i64 z6[k].at_.Yj)/\a.cell? ⟨z5,k*6+5,none⟩=some (int i64 z6[k].at_.Yk):=by
 have c:=fun j (b:j<6) v (e:(nU z6[k])[j]?=some v)=>(ah h.arr (k*6+j)).trans ((by simp only[List.getElem?_toArray];exact(IV z6 k d j b).trans e));exact⟨c 0 (by omega) _ rfl,c 1 (by omega) _ rfl,c 2 (by omega) _ rfl,c 3 (by omega) _ rfl,c 4 (by omega) _ rfl,c 5 (by omega) _ rfl⟩
def eN(L:List Rw)(n:Nat):Int:=(L.getD n qs).XS
set_option maxRecDepth 512
theorem oq(h:jB S H D w s zt M) :
  Calls prog 96 #[pointer (some ⟨H,D,none⟩),int i64 l] S fun e d=>e=returned (int i64 (eN M l))/\d=S:=by
 have f:=h.at2;by_cases a:l<M.length
 ·have c:Xr (eN M l=M[l].XS):=by show _=_;unfold eN;rw[TG,TF a];rfl
  obtain⟨-,g,-,-,-,-⟩:=h.row l a;have b:¬((l:Int) ≥ M.length):=by omega
  go_enter func96,ntmps96;go_wp2;go_ret;exact⟨au (by rw[c.o]),rfl⟩
 ·have c:Xr (eN M l=0):=by show _=_;unfold eN;rw[TG,UA (by omega)];rfl
  have b:(l:Int) ≥ M.length:=by omega
  go_enter func96,ntmps96;go_wp2;go_ret;exact⟨au (by rw[c.o]),rfl⟩
def uH(steps:List kD):Option Nat:=(List.range steps.length).find? (fun i=>match steps[i]? with | some s=>s.Yd==1 | none=>false)
theorem uY(v:aB S L (gu f))(B:f.length<=1073741824) :
  Calls prog 162 #[slice L.ao f.length L.cap] S fun e x=>e=returned (int i64 (oD (uH f)))/\x=S:=by
 obtain⟨r,c⟩:=bq (L.ao);rw[c.o];go_enter func162,ntmps162;go_wp2
 go_loopg [3] f.length (fun g i wr=>∃k:Nat,k<=f.length/\g=f.length-k/\i=int i64 k/\Xr (∀i,i<k->(match f[i]? with | some s=>s.Yd==1 | none=>false)=false)/\wr=S)
 ·exact⟨0,by omega,by omega,rfl,fun i q=>by omega,rfl⟩
 obtain⟨k,A,z,rfl,a,rfl⟩:=hrel;by_cases b:k<f.length
 ·obtain⟨u,n,m,l,y,-⟩:=v.step k b;obtain rfl:r=some ⟨u,0,none⟩:=c.o.symm.trans n;clear n;have d:Xr (f[k]?=some f[k]):=TF b;generalize f[k]=w at *;cases p:(w.Yd==1)
  ·have t:Xr (∀i,i<k+1->(match f[i]? with | some s=>s.Yd==1 | none=>false)=false):=by
    intro i q;by_cases e:i=k
    ·subst e;rw[d.o];exact p
    ·exact a.o i (by omega)
   clear d a;go_wp2;go_roundg (f.length-(k+1))
   ·exact⟨k+1,by omega,rfl,by go_num,t,rfl⟩
   omega
  ·have j:Xr (uH f=some k):=pb b (by rw[d.o];exact p) a.o;clear d a;go_wp2;go_ret;exact⟨au (by rw[j.o];rfl),rfl⟩
 ·have j:Xr (uH f=none):=nQ (fun i q=>a.o i (by omega));clear a;go_wp2;go_ret;exact⟨au (by rw[j.o];rfl),rfl⟩
def xg(v:Int):Bool:=v==2||v==3||v==4
def mZ(L:List Rw)(steps:List kD):Bool:=steps.all (fun s=>!(s.Yd==2) || !(xg (eN L s.XN)))
theorem Qi(c:y<f.length)(a:(f[y].Yd==2)=true)(b:xg (eN z4 f[y].XN)=true):mZ z4 f=false:=by
 cases e:mZ z4 f
 ·rfl
 ·unfold mZ at e;rw[UJ]at e;have:=e _ (Ue c);rw[a,b]at this;cases this
theorem NY(h:∀k (a:k<f.length),(!(f[k].Yd==2) || !(xg (eN z4 f[k].XN)))=true):mZ z4 f=true:=by
 unfold mZ;rw[UJ];intro x b;obtain⟨k,a,rfl⟩:=UL b;exact h k a
theorem NX(h:jB S D l w s zt z4)(J:aB S L (gu f))(K:f.length<=1100000) :
  Calls prog 164 #[pointer (some ⟨D,l,none⟩),slice L.ao f.length L.cap] S fun e M=>e=returned (bool (mZ z4 f))/\M=S:=by
 obtain⟨F,o⟩:=bq (L.ao);rw[o.o];go_enter func164,ntmps164;go_wp2
 go_loopg [5] f.length (fun zt i wr=>∃k:Nat,k<=f.length/\zt=f.length-k/\i=int i64 k/\Xr (∀i (n:i<f.length),i<k->(!(f[i].Yd==2) || !(xg (eN z4 f[i].XN)))=true)/\wr=S)
 ·exact⟨0,by omega,by omega,rfl,fun i _ n=>by omega,rfl⟩
 obtain⟨k,Q,P,rfl,d,rfl⟩:=hrel;by_cases q:k<f.length
 ·obtain⟨G,C,B,x,N,O,-⟩:=J.step k q;obtain rfl:F=some ⟨G,0,none⟩:=o.o.symm.trans C;clear C;have b:Xr ((!(f[k].Yd==2) || !(xg (eN z4 f[k].XN)))=true->∀i (n:i<f.length),i<k+1->(!(f[i].Yd==2) || !(xg (eN z4 f[i].XN)))=true):=by
   intro H i n I;by_cases e:i=k
   ·subst e;exact H
   ·exact d.o i n (by omega)
  have a:Xr _:=Qi z4 f k q;have p:=oq D l f[k].XN w s zt z4 wr h;clear d;generalize f[k]=t at *;cases m:(t.Yd==2)
  ·have z:(t.Yd != 2)=true:=(by simp[bne,m]);have u:Xr _:=(b.o (by rw[m];rfl));clear b a p;go_wp2;go_roundg (f.length-(k+1))
   ·exact⟨k+1,by omega,rfl,by go_num,u.o,rfl⟩
   omega
  ·have z:(t.Yd != 2)=false:=(by simp[bne,m]);have g:Xr (∀v,xg v=(v==2||v==3||v==4)):=fun _=>rfl;generalize eN z4 t.XN=V at *;cases r:(V==2)
   ·cases y:(V==3)
    ·cases E:(V==4)
     ·have u:Xr _:=b.o (by rw[g.o,r,y,E];simp);clear b a;go_wp2_with (go_at_call 96;refine p.mono ?_;rintro e A ⟨rfl,c⟩;rw[c]);go_roundg (f.length-(k+1))
      ·exact⟨k+1,by omega,rfl,by go_num,u.o,rfl⟩
      omega
     ·have j:Xr _:=a.o m (by rw[g.o,r,y,E];rfl);clear b a;go_wp2_with (go_at_call 96;refine p.mono ?_;rintro e A ⟨rfl,c⟩;rw[c]);go_ret;exact⟨aF j.o.symm,rfl⟩
    ·have j:Xr _:=a.o m (by rw[g.o,r,y];rfl);clear b a;go_wp2_with (go_at_call 96;refine p.mono ?_;rintro e A ⟨rfl,c⟩;rw[c]);go_ret;exact⟨aF j.o.symm,rfl⟩
   ·have j:Xr _:=a.o m (by rw[g.o,r];rfl);clear b a;go_wp2_with (go_at_call 96;refine p.mono ?_;rintro e A ⟨rfl,c⟩;rw[c]);go_ret;exact⟨aF j.o.symm,rfl⟩
 ·have j:Xr (mZ z4 f=true):=NY z4 f (fun i n=>d.o i n (by omega));clear d;go_wp2;go_ret;exact⟨aF j.o.symm,rfl⟩
theorem zQ{t:Xs}(h:jH I t i=some z7):z7<I.length:=by
 unfold jH at h;have:=UC h;simpa using this
def Hh(l:List St)(s:kD):Prop:=s.XN<=1020000/\((s.Yd==3)=false->s.XN<l.length)
theorem Kr(g:0<w.length)(i:w.length<=10000)(c:List (Xs×Pl))(a:List kD)(h:∀s∈a,Hh w s)(N:Nat)(f:a.length<=N) :
  (∀s∈(dM w zt y5 c a).1,Hh w s)/\(dM w zt y5 c a).1.length<=N+c.length:=by
 induction c generalizing a N with
 | nil =>
  rw[dM];split
  ·exact⟨by simp,by simp⟩
  ·exact⟨h,by simpa using f⟩
 | cons x r e =>
  obtain⟨t,p⟩:=x;rw[dM];split
  ·have:=e (a++[⟨1,0,p⟩]) (by intro s b;simp at b;rcases b with b | rfl;exact h s b;exact⟨by simp,fun _=>g⟩) (N+1) (by simp;omega);exact⟨this.1,by have:=this.2;simp;omega⟩
  ·split
   ·exact⟨by simp,by simp⟩
   ·next n j =>
    have d:=zQ j;have:=e (a++[⟨2,n,p⟩]) (by intro s b;simp at b;rcases b with b | rfl;exact h s b;exact⟨by simp only;omega,fun _=>d⟩) (N+1) (by simp;omega);exact⟨this.1,by have:=this.2;simp;omega⟩
structure zd(l:List St)(c:lC):Prop where
 Yg:∀n∈c.Yg,n<l.length
 X0:∀n∈c.X0,n<=1020000
 steps:∀s∈c.steps,Hh l s
theorem zd.letter{c:lC}(g:zd I c)(h:jo c i)(f:0<I.length)(j:I.length<=10000)(l:i<=1020000)(n:Nat)(p:Pl):zd I (bI c n p).2:=by
 have k:=h.steps;unfold bI;split
 ·unfold fk dO;split
  ·next b =>
   refine⟨g.Yg,g.X0,?_⟩;intro s a;simp at a;rcases a with a | rfl
   ·exact g.steps s a
   ·have:=g.Yg _ (Ue b);rw[TF b];exact⟨by simp only[Option.getD_some];omega,fun _=>this⟩
  ·split
   ·next b =>
    refine⟨g.Yg,g.X0,?_⟩;intro s a;simp at a;rcases a with a | rfl
    ·exact g.steps s a
    ·have:=g.X0 _ (Ue b);rw[TF b];exact⟨this,fun e=>by simp at e⟩
   ·exact⟨g.Yg,g.X0,g.steps⟩
 ·split
  ·unfold jL;split <;> exact⟨g.Yg,g.X0,g.steps⟩
  ·split
   ·refine⟨g.Yg,?_,g.steps⟩;intro x d;simp at d;rcases d with d | rfl
    ·exact g.X0 x d
    ·omega
   ·split
    ·refine⟨g.Yg,g.X0,?_⟩;intro s a;simp[dO]at a;rcases a with a | rfl
     ·exact g.steps s a
     ·exact⟨by simp,fun _=>f⟩
    ·exact g
theorem Co(l:0<I.length)(a:I.length<=10000)(t:Xs)(p:Pl)(f:Nat):∀(j:Nat) (c:lC) (N:Nat),zd I c->jo c (N+j)->j<=t.size->N+t.size<=1020000->zd I (ia t p f j c).2:=by
 induction f with
 | zero=>intro j c N g h k d;exact g
 | succ f n =>
  intro j c N g h k d;rw[ia];split
  ·next m =>
   have i:=h.letter (aI t j).toNat { p with Yk:=p.Yk+j };have b:=g.letter h l a (by omega) (aI t j).toNat { p with Yk:=p.Yk+j };split
   ·exact n (j+1) _ N b (by rw[<-Wj];exact i) (by omega) d
   ·exact b
  ·exact g
theorem Cq(j:0<I.length)(d:I.length<=10000)(a:List (Xs×Pl)):∀(c:lC) (N:Nat),zd I c->jo c N->N+kY a<=1020000->zd I (pW a c).2/\jo (pW a c).2 1020000:=by
 induction a with
 | nil=>intro c N g h b;exact⟨g,h.mono (by simp[kY]at b;omega)⟩
 | cons x r k =>
  intro c N g h b;obtain⟨t,p⟩:=x;have i:kY ((t,p) :: r)=t.size+kY r:=by simp[kY]
  rw[i]at b;have e:zd I (l9 t p c).2:=Co j d t p _ 0 c N g h (Up _) (by omega);have f:=AD t p h;rw[pW];split
  ·exact k _ (N+t.size) e f (by omega)
  ·exact⟨e,f.mono (by omega)⟩
theorem Fb(c:List (Xs×Pl))(i:Nat)(b:Xv)(h:∀n∈b,n<w.length):∀n∈(b7 w zt y5 i c b).2,n<w.length:=by
 induction c generalizing i b with
 | nil=>exact h
 | cons x r e =>
  obtain⟨t,p⟩:=x;rw[b7];split
  ·exact h
  ·split
   ·exact h
   ·next n d =>
    split
    ·exact h
    ·exact e (i+1) (b++[n]) (by intro m a;simp at a;rcases a with a | rfl;exact h m a;exact zQ d)
theorem Gf(c:jV w)(m:y<w.length)(j:rX w[y]):Hz w (dB w y w[y]).1:=by
 have k:0<w.length:=by omega
 have p:=c.prfs y m;have q:=j.size;have a:(∀s∈(dB w y w[y]).1,Hh w s)/\(dB w y w[y]).1.length<=1100000:=by
  unfold dB;split
  ·unfold kQ zL;have e:=CU w y w[y] c.len p;have f:zd w ⟨(b7 w y w[y].Yh 1 (w[y].XY.drop 1) (aO w y)).2,[],[],0,false⟩:=⟨Fb w y w[y].Yh _ 1 _ (fun n o=>Dn o),by simp,by simp⟩;generalize b7 w y w[y].Yh 1 (w[y].XY.drop 1) (aO w y)=l at *;obtain⟨⟨b,d⟩,i⟩:=l;simp only at e f ⊢;have vg:zd w (Ct d (w[y].XY.drop b) ⟨i,[],[],0,false⟩).2/\jo (Ct d (w[y].XY.drop b) ⟨i,[],[],0,false⟩).2 1020000:=by
    unfold Ct;split
    ·exact Cq k c.len _ _ 20000 f e (by have:=En w[y].XY b;omega)
    ·exact⟨f,e.mono (by omega)⟩
   generalize Ct d (w[y].XY.drop b) ⟨i,[],[],0,false⟩=R at *;unfold mY;split
   ·split
    ·split
     ·exact⟨by simp,by simp⟩
     ·exact⟨vg.1.steps,by have:=vg.2.steps;simp only;omega⟩
    ·exact⟨by simp,by simp⟩
   ·exact⟨by simp,by simp⟩
  ·have:=Kr w y w[y].Yh k c.len w[y].XY [] (by simp) 0 (by simp);exact⟨this.1,by have:=this.2;omega⟩
 exact⟨a.2,fun s g=>by have:=(a.1 s g).1;omega,fun s g=>(a.1 s g).2⟩
section
theorem vS(k l c u:Int)(a f:Xs)(b d:Xu)(i e j g:Nat) :
    (Instr.field 158 (agg #[int i64 k,string a,slice b i e,slice d j g,string f,int i64 l,int i64 c,int i64 u]) 1).run prog S=.ok (string a) S:=by kernel_rfl
attribute [local go_sem] vS
def kG(Ye:Xs)(L:List Rw)(steps:List kD)(f:pu):Rw :=
  if(f.1==0)=true then
    (match uH steps with
     | some u=>⟨Ye,3,0,((steps[u]?).map kD.at_).getD lm⟩
     | none=>if mZ L steps=true then⟨Ye,5,0,lm⟩ else⟨Ye,4,0,lm⟩)
  else⟨Ye,2,f.1,f.2⟩
def dq(l:List St)(n:Nat)(s:St)(L:List Rw):Rw :=
  kG s.Ye L (dB l n s).1 (if(uH (dB l n s).1).isNone=true/\((dB l n s).2.1==0)=true then fQ l n s (dB l n s).1 else(dB l n s).2)
theorem fe{x:Rw}(h:a.heap[i]?=some (.cells (nU x).toArray 38)) :
    a.cell? ⟨i,0,none⟩=some (string x.Ye)/\a.cell? ⟨i,1,none⟩=some (int i64 x.XS)/\a.cell? ⟨i,2,none⟩=some (int i64 x.why)/\a.cell? ⟨i,3,none⟩=some (string x.at_.Yi)/\a.cell? ⟨i,4,none⟩=some (int i64 x.at_.Yj)/\a.cell? ⟨i,5,none⟩=some (int i64 x.at_.Yk):=by
  refine⟨?_,?_,?_,?_,?_,?_⟩ <;> (rw[ah h];rfl)
theorem zZ(K:ae [] a y6)(b:a.heap.size<=i)(c d e f g j:Value):ae [] a ((((((y6.setCell ⟨i,0,none⟩ c).setCell ⟨i,1,none⟩ d).setCell ⟨i,2,none⟩ e).setCell ⟨i,3,none⟩ f).setCell ⟨i,4,none⟩ g).setCell ⟨i,5,none⟩ j) :=
  (((((K.setCell (TU b) _).setCell (TU b) _).setCell (TU b) _).setCell (TU b) _).setCell (TU b) _).setCell (TU b) _
set_option maxRecDepth 100000
theorem J1(h:jB S N o w s D M)(ok:jV w)(ha:H<w.length)(a0:rX w[H])(az:iH S l w w.length g) :
    Calls prog 115 #[pointer (some ⟨N,o,none⟩),int i64 H,slice (some ⟨l,0,none⟩) w.length w.length] S fun e w' =>
      e=returned (agg (nU (dq w H w[H] M)).toArray)/\ae [] S w':=by
  have ap:=Gf w H ok ha a0;obtain⟨W,hW⟩:∃W,W=S.alloc (.cells #[string ⟨#[]⟩,int i64 0,int i64 0,string ⟨#[]⟩,int i64 0,int i64 0] 38):=⟨_,rfl⟩
  have kW:=fH hW.symm;have BF:W.heap[S.heap.size]?=some (.cells (nU qs).toArray 38):=by rw[hW];exact TN _ _
  have HW:Xr _:=hW.symm;clear hW;have Y:Xr (dq w H w[H] M=kG w[H].Ye M (dB w H w[H]).1 (if(uH (dB w H w[H]).1).isNone=true/\((dB w H w[H]).2.1==0)=true then fQ w H w[H] (dB w H w[H]).1 else(dB w H w[H]).2)):=rfl;have RD:=fun(w':World) (k:ae [] S w')=>Ag N o H w s w' (h.XR k).recd ha ok a0;have PL:=fun(hd:Hd) (w':World) (k:ae [] S w') (o':aB w' hd (gu (dB w H w[H]).1))=>LZ N o l H w s g hd (dB w H w[H]).1 w' (h.XR k).recd ok ha (az.XR k) o' ap;have al:=ap.len;have av:Xr _:=RD;have ar:Xr _:=PL;clear RD PL ap;generalize dB w H w[H]=PF at *;obtain⟨a,J,G⟩:=PF;simp only at Y av ar al;go_enter func115,ntmps115;go_upto_region 1 with fail
  rw[HW.o];go_upto_region 2 with (go_at_call 98;refine(bF N o H w s _ (by exact(h.XR kW).recd) ha).mono ?_;rintro e i ⟨rfl,k1⟩;unfold fR)
  obtain⟨W2,ac⟩:∃W2,W2=i.alloc (.cells #[string w[H].Ye,int i64 0,int i64 0,string ⟨#[]⟩,int i64 0,int i64 0] 38):=⟨_,rfl⟩
  have k2:ae [] W W2:=by rw[ac];exact k1.alloc _
  have BR:W2.heap[i.heap.size]?=some (.cells (nU ⟨w[H].Ye,0,0,lm⟩).toArray 38):=by rw[ac];exact TN _ _
  have b:S.heap.size<i.heap.size:=by have:=k1.size;have:=aj BF;omega
  rw[<-ac];clear ac;have K2:=kW.trans k2;have a1:=k2.get BF (by simp);go_upto_region 3 with (go_at_call 101;refine(av.o _ (by exact K2)).mono ?_;rintro e w3 ⟨hd,rfl,ai,a7,k3⟩;unfold iw)
  obtain⟨W4,T⟩:∃W4,W4=w3.alloc (.cells #[int i64 J,string G.Yi,int i64 G.Yj,int i64 G.Yk] 165):=⟨_,rfl⟩
  have k4:ae [] W2 W4:=by rw[T];exact k3.alloc _
  have B9:W4.heap[w3.heap.size]?=some (.cells (Dg (J,G)) 165):=by rw[T];exact TN _ _
  have L:aB W4 hd (gu a):=by rw[T];exact ai.XX (fun x hx=>(kr0.alloc _).block x (ai.lt hx) (by simp))
  rw[<-T];clear T;have ba:i.heap.size<w3.heap.size:=by have:=k3.size;have:=aj BR;omega
  have K4:=K2.trans k4;have af:=k4.get BR (by simp);have ad:=k4.get a1 (by simp);have FU:=uY hd a W4 L (by omega);cases hu:uH a with
  | some u =>
    have HU:Xr _:=hu;rw[hu]at FU;simp only[oD]at FU;have aT:u<a.length:=by
      have:=UC hu;simpa using this
    have a4:(u:Int) ≥ 0:=(by omega);have a5:(u:Int)<a.length:=(by omega);clear hu;have Z:=K4;have O:=B9;have j:=af;have y:=ad;obtain⟨f0,f1,f2,f3⟩:=jQ O;obtain⟨m,n,p,q,r,t⟩:=fe j;have yr:=am j;simp only[lm]at m n p q r t;cases U:(J==0)
    · have aS:(J != 0)=true:=by simp[bne,U]
      have Q:Xr (dq w H w[H] M=⟨w[H].Ye,2,J,G⟩):=cg (by rw[Y.o,HU.o,U];simp[kG,U]);clear Y;(go_upto_region 4 with (go_at_call 162;refine FU.mono ?_;rintro e wu ⟨rfl,I⟩;rw[I]));(go_upto_region 16 with fail);obtain⟨X,d⟩:∃X,X=((((W4.setCell ⟨i.heap.size,1,none⟩ (int i64 2)).setCell ⟨i.heap.size,2,none⟩ (int i64 J)).setCell ⟨i.heap.size,3,none⟩ (string G.Yi)).setCell ⟨i.heap.size,4,none⟩ (int i64 G.Yj)).setCell ⟨i.heap.size,5,none⟩ (int i64 G.Yk):=⟨_,rfl⟩
      have P:X.heap[i.heap.size]?=some (.cells (nU ⟨w[H].Ye,2,J,G⟩).toArray 38):=by
        rw[d];rw[ab (ab (ab (ab (ab j _ _) _ _) _ _) _ _) _ _];rfl
      have R:ae [] S X:=(by rw[d];exact(((((Z.setCell (TU (UO b)) _).setCell (TU (UO b)) _).setCell (TU (UO b)) _).setCell (TU (UO b)) _).setCell (TU (UO b)) _));have c:X.heap[S.heap.size]?=some (.cells (nU qs).toArray 38):=by
        rw[d];rw[Ub _ _ _ _ (by simp;omega)];rw[Ub _ _ _ _ (by simp;omega)];rw[Ub _ _ _ _ (by simp;omega)];rw[Ub _ _ _ _ (by simp;omega)];rw[Ub _ _ _ _ (by simp;omega)];exact y
      rw[<-d];clear d m n p q r t yr;obtain⟨m,n,p,q,r,t⟩:=fe P;obtain⟨z,A,B,C,E,F⟩:=fe c;have ys:=am c;simp only[qs,lm]at m n p q r t z A B C E F;go_wp2;exact TR (v:=agg (nU ⟨w[H].Ye,2,J,G⟩).toArray) (by simp[results,results115,go_sem,z,A,B,C,E,F,nU]) rfl ⟨by rw[Q.o],zZ R (TI _) _ _ _ _ _ _⟩
    · have aS:(J != 0)=false:=by simp[bne,U]
      obtain⟨gp,ep,ax,ag,-,-,d2,d3,d4⟩:=L.step u aT;have Q:Xr (dq w H w[H] M=⟨w[H].Ye,3,0,a[u].at_⟩):=cg (by rw[Y.o,HU.o,U];simp[kG,U,HU.o,aT]);obtain⟨ao,a6⟩:=hd;simp only at ep ax ag;subst ep;clear Y;generalize a[u]=st at *;(go_upto_region 4 with (go_at_call 162;refine FU.mono ?_;rintro e wu ⟨rfl,I⟩;rw[I]));(go_upto_region 16 with fail);obtain⟨X,d⟩:∃X,X=(((W4.setCell ⟨i.heap.size,1,none⟩ (int i64 3)).setCell ⟨i.heap.size,3,none⟩ (string st.at_.Yi)).setCell ⟨i.heap.size,4,none⟩ (int i64 st.at_.Yj)).setCell ⟨i.heap.size,5,none⟩ (int i64 st.at_.Yk):=⟨_,rfl⟩
      have P:X.heap[i.heap.size]?=some (.cells (nU ⟨w[H].Ye,3,0,st.at_⟩).toArray 38):=by
        rw[d];rw[ab (ab (ab (ab j _ _) _ _) _ _) _ _];rfl
      have R:ae [] S X:=(by rw[d];exact((((Z.setCell (TU (UO b)) _).setCell (TU (UO b)) _).setCell (TU (UO b)) _).setCell (TU (UO b)) _));have c:X.heap[S.heap.size]?=some (.cells (nU qs).toArray 38):=by
        rw[d];rw[Ub _ _ _ _ (by simp;omega)];rw[Ub _ _ _ _ (by simp;omega)];rw[Ub _ _ _ _ (by simp;omega)];rw[Ub _ _ _ _ (by simp;omega)];exact y
      rw[<-d];clear d m n p q r t yr;obtain⟨m,n,p,q,r,t⟩:=fe P;obtain⟨z,A,B,C,E,F⟩:=fe c;have ys:=am c;simp only[qs,lm]at m n p q r t z A B C E F;go_wp2;exact TR (v:=agg (nU ⟨w[H].Ye,3,0,st.at_⟩).toArray) (by simp[results,results115,go_sem,z,A,B,C,E,F,nU]) rfl ⟨by rw[Q.o],zZ R (TI _) _ _ _ _ _ _⟩
  | none =>
    have HU:Xr _:=hu;rw[hu]at FU;simp only[oD]at FU;clear hu;cases U:(J==0)
    · have aS:(J != 0)=true:=by simp[bne,U]
      have Q:Xr (dq w H w[H] M=⟨w[H].Ye,2,J,G⟩):=cg (by rw[Y.o,HU.o,U];simp[kG,U]);have Z:=K4;have O:=B9;have j:=af;have y:=ad;obtain⟨f0,f1,f2,f3⟩:=jQ O;obtain⟨m,n,p,q,r,t⟩:=fe j;have yr:=am j;simp only[lm]at m n p q r t;clear Y;(go_upto_region 4 with (go_at_call 162;refine FU.mono ?_;rintro e wu ⟨rfl,I⟩;rw[I]));(go_upto_region 16 with fail);obtain⟨X,d⟩:∃X,X=((((W4.setCell ⟨i.heap.size,1,none⟩ (int i64 2)).setCell ⟨i.heap.size,2,none⟩ (int i64 J)).setCell ⟨i.heap.size,3,none⟩ (string G.Yi)).setCell ⟨i.heap.size,4,none⟩ (int i64 G.Yj)).setCell ⟨i.heap.size,5,none⟩ (int i64 G.Yk):=⟨_,rfl⟩
      have P:X.heap[i.heap.size]?=some (.cells (nU ⟨w[H].Ye,2,J,G⟩).toArray 38):=by
        rw[d];rw[ab (ab (ab (ab (ab j _ _) _ _) _ _) _ _) _ _];rfl
      have R:ae [] S X:=(by rw[d];exact(((((Z.setCell (TU (UO b)) _).setCell (TU (UO b)) _).setCell (TU (UO b)) _).setCell (TU (UO b)) _).setCell (TU (UO b)) _));have c:X.heap[S.heap.size]?=some (.cells (nU qs).toArray 38):=by
        rw[d];rw[Ub _ _ _ _ (by simp;omega)];rw[Ub _ _ _ _ (by simp;omega)];rw[Ub _ _ _ _ (by simp;omega)];rw[Ub _ _ _ _ (by simp;omega)];rw[Ub _ _ _ _ (by simp;omega)];exact y
      rw[<-d];clear d m n p q r t yr;obtain⟨m,n,p,q,r,t⟩:=fe P;obtain⟨z,A,B,C,E,F⟩:=fe c;have ys:=am c;simp only[qs,lm]at m n p q r t z A B C E F;go_wp2;exact TR (v:=agg (nU ⟨w[H].Ye,2,J,G⟩).toArray) (by simp[results,results115,go_sem,z,A,B,C,E,F,nU]) rfl ⟨by rw[Q.o],zZ R (TI _) _ _ _ _ _ _⟩
    · have K:Xr (dq w H w[H] M=kG w[H].Ye M a (fQ w H w[H] a)):=by show _=_;rw[Y.o,HU.o,U];simp
      obtain⟨f0,f1,f2,f3⟩:=jQ B9;clear Y;generalize fQ w H w[H] a=f at *;(go_upto_region 4 with (go_at_call 162;refine FU.mono ?_;rintro e wu ⟨rfl,I⟩;rw[I]));(go_upto_region 7 with (go_at_call 163;refine(ar.o hd _ (by exact K4) (by exact L)).mono ?_;rintro e w5 ⟨rfl,k5⟩;unfold iw;obtain⟨t0,t1,t2,t3⟩:=jQ (k5.get B9 (by simp));have yt:=am (k5.get B9 (by simp))));obtain⟨V,hV⟩:∃V,V=(((w5.setCell ⟨w3.heap.size,0,none⟩ (int i64 f.1)).setCell ⟨w3.heap.size,1,none⟩ (string f.2.Yi)).setCell ⟨w3.heap.size,2,none⟩ (int i64 f.2.Yj)).setCell ⟨w3.heap.size,3,none⟩ (int i64 f.2.Yk):=⟨_,rfl⟩
      have O:V.heap[w3.heap.size]?=some (.cells (Dg f) 165):=by
        rw[hV,ab (ab (ab (ab (k5.get B9 (by simp)) _ _) _ _) _ _)];rfl
      have k9:ae [w3.heap.size] w5 V:=(by rw[hV];exact jR _ _ _ _);have Z:ae [] S V:=(by rw[hV];exact lL (K4.trans k5) (by omega) _ _ _ _);have j:=k9.get (k5.get af (by simp)) (by simp;omega);have y:=k9.get (k5.get ad (by simp)) (by simp;omega);have a2:aB V hd (gu a):=(L.XX (w':=w5) (fun x hx=>k5.block x (L.lt hx) (by simp))).XX (fun x hx=>k9.block x (TP (L.lt hx) k5.size) (by simp;rintro rfl;have:=ai.lt hx;omega));rw[<-hV];clear hV t0 t1 t2 t3 yt;clear f0 f1 f2 f3;obtain⟨f0,f1,f2,f3⟩:=jQ O;obtain⟨m,n,p,q,r,t⟩:=fe j;have yr:=am j;simp only[lm]at m n p q r t;cases hf:(f.1==0)
      · have a3:(f.1 != 0)=true:=by simp[bne,hf]
        have Q:Xr (dq w H w[H] M=⟨w[H].Ye,2,f.1,f.2⟩):=cg (by rw[K.o];simp[kG,hf]);clear K;(go_upto_region 16 with fail);obtain⟨X,d⟩:∃X,X=((((V.setCell ⟨i.heap.size,1,none⟩ (int i64 2)).setCell ⟨i.heap.size,2,none⟩ (int i64 f.1)).setCell ⟨i.heap.size,3,none⟩ (string f.2.Yi)).setCell ⟨i.heap.size,4,none⟩ (int i64 f.2.Yj)).setCell ⟨i.heap.size,5,none⟩ (int i64 f.2.Yk):=⟨_,rfl⟩
        have P:X.heap[i.heap.size]?=some (.cells (nU ⟨w[H].Ye,2,f.1,f.2⟩).toArray 38):=by
          rw[d];rw[ab (ab (ab (ab (ab j _ _) _ _) _ _) _ _) _ _];rfl
        have R:ae [] S X:=(by rw[d];exact(((((Z.setCell (TU (UO b)) _).setCell (TU (UO b)) _).setCell (TU (UO b)) _).setCell (TU (UO b)) _).setCell (TU (UO b)) _));have c:X.heap[S.heap.size]?=some (.cells (nU qs).toArray 38):=by
          rw[d];rw[Ub _ _ _ _ (by simp;omega)];rw[Ub _ _ _ _ (by simp;omega)];rw[Ub _ _ _ _ (by simp;omega)];rw[Ub _ _ _ _ (by simp;omega)];rw[Ub _ _ _ _ (by simp;omega)];exact y
        rw[<-d];clear d m n p q r t yr;obtain⟨m,n,p,q,r,t⟩:=fe P;obtain⟨z,A,B,C,E,F⟩:=fe c;have ys:=am c;simp only[qs,lm]at m n p q r t z A B C E F;go_wp2;exact TR (v:=agg (nU ⟨w[H].Ye,2,f.1,f.2⟩).toArray) (by simp[results,results115,go_sem,z,A,B,C,E,F,nU]) rfl ⟨by rw[Q.o],zZ R (TI _) _ _ _ _ _ _⟩
      · have a3:(f.1 != 0)=false:=by simp[bne,hf]
        have RE:=NX N o w s D M hd a V (h.XR Z) a2 (by omega);cases hr:mZ M a
        · have Q:Xr (dq w H w[H] M=⟨w[H].Ye,4,0,lm⟩):=by show _=_;rw[K.o];simp[kG,hf,HU.o,hr]
          rw[hr]at RE;clear K;(go_upto_region 6 with (go_at_call 164;refine RE.mono ?_;rintro e wv ⟨rfl,an⟩;rw[an]));(go_upto_region 16 with fail);obtain⟨X,d⟩:∃X,X=V.setCell ⟨i.heap.size,1,none⟩ (int i64 4):=⟨_,rfl⟩
          have P:X.heap[i.heap.size]?=some (.cells (nU ⟨w[H].Ye,4,0,lm⟩).toArray 38):=by
            rw[d];rw[ab j _ _];rfl
          have R:ae [] S X:=(by rw[d];exact(Z.setCell (TU (UO b)) _));have c:X.heap[S.heap.size]?=some (.cells (nU qs).toArray 38):=by
            rw[d];rw[Ub _ _ _ _ (by simp;omega)];exact y
          rw[<-d];clear d m n p q r t yr;obtain⟨m,n,p,q,r,t⟩:=fe P;obtain⟨z,A,B,C,E,F⟩:=fe c;have ys:=am c;simp only[qs,lm]at m n p q r t z A B C E F;go_wp2;exact TR (v:=agg (nU ⟨w[H].Ye,4,0,lm⟩).toArray) (by simp[results,results115,go_sem,z,A,B,C,E,F,nU,lm]) rfl ⟨by rw[Q.o],zZ R (TI _) _ _ _ _ _ _⟩
        · have Q:Xr (dq w H w[H] M=⟨w[H].Ye,5,0,lm⟩):=by show _=_;rw[K.o];simp[kG,hf,HU.o,hr]
          rw[hr]at RE;clear K;(go_upto_region 15 with (go_at_call 164;refine RE.mono ?_;rintro e wv ⟨rfl,an⟩;rw[an]));(go_upto_region 16 with fail);obtain⟨X,d⟩:∃X,X=V.setCell ⟨i.heap.size,1,none⟩ (int i64 5):=⟨_,rfl⟩
          have P:X.heap[i.heap.size]?=some (.cells (nU ⟨w[H].Ye,5,0,lm⟩).toArray 38):=by
            rw[d];rw[ab j _ _];rfl
          have R:ae [] S X:=(by rw[d];exact(Z.setCell (TU (UO b)) _));have c:X.heap[S.heap.size]?=some (.cells (nU qs).toArray 38):=by
            rw[d];rw[Ub _ _ _ _ (by simp;omega)];exact y
          rw[<-d];clear d m n p q r t yr;obtain⟨m,n,p,q,r,t⟩:=fe P;obtain⟨z,A,B,C,E,F⟩:=fe c;have ys:=am c;simp only[qs,lm]at m n p q r t z A B C E F;go_wp2;exact TR (v:=agg (nU ⟨w[H].Ye,5,0,lm⟩).toArray) (by simp[results,results115,go_sem,z,A,B,C,E,F,nU,lm]) rfl ⟨by rw[Q.o],zZ R (TI _) _ _ _ _ _ _⟩
end
end Go.Proofs.YtnbhnocdhbcbcaaGreat
