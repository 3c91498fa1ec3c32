import Derived.Test.YtnbhnocdhbcbcaaGreatK10
namespace Go.Proofs.YtnbhnocdhbcbcaaGreat
open Go.RowKit Tryz
open Value IntKind Ending
set_option maxHeartbeats 0
variable{a y6:World}{i z7 z5:Nat}{y2:Nat->Hd}{I:List St}{z6:List Rw}(y3 y4:World)(N o H D l:Nat)(b:kC)(w:List St)(x s:Nat->Hd)(d:Xt)(k:List Bool)(y9:Hd)(zt:Nat)(z4:List Rw)(L:Hd)(n T:List Ex)(g:Nat->Hd)(y5:Pl)(ya:Xt)(f:List kC)(M:List Rw)(S:World)(y7:List Xt×List Xt)(y:Nat)
def gG(l:List St)(vs:Xt)(ms:List Bool)(sh th:List Xt)(s:kC):(Int×Xt)×List Xt :=
 if(s.XS==3)=true then(if s.Xz<sh.length then((0,sh.getD s.Xz []),th) else((5,[]),th))
 else if nI l s.Xz=true then(gI l s.Xz vs ms th,th.take (th.length-(aP l s.Xz).length))
 else((0,(l.getD s.Xz zs).Xy),th)
set_option maxRecDepth 100000
theorem N6(E:ET y3 o H D l w x s d k y9 L)(P:mV y3 y4 N o H D w.length l n T g)(hn:(b.XS==3)=false->b.Xz<w.length)(a2:b.Xz<=2000000)(af:T.length<=2000000) :
  Calls prog 240 #[pointer (some ⟨N,0,none⟩),agg #[int i64 b.XS,int i64 b.Xz,string b.at_.XY,int i64 b.at_.XZ,int i64 b.at_.X0]] y4 fun e A=>∃(U:List Ex) (t:Ex),
   e=returned (tuple #[slice t.hd.ao t.xs.length t.hd.cap,int i64 (gG w d k (n.map Ex.xs) (T.map Ex.xs) b).1.1])/\t.xs=(gG w d k (n.map Ex.xs) (T.map Ex.xs) b).1.2/\mV y3 A N o H D w.length l n U g/\sx A N g t.hd t.xs /\
   (((gG w d k (n.map Ex.xs) (T.map Ex.xs) b).1.1==0)=true->U.map Ex.xs=(gG w d k (n.map Ex.xs) (T.map Ex.xs) b).2)/\U.length<=T.length:=by
 obtain⟨W,hW⟩:∃W,W=y4.alloc (.cells #[int i64 b.XS,int i64 b.Xz,string b.at_.XY,int i64 b.at_.XZ,int i64 b.at_.X0] 174):=⟨_,rfl⟩
 have kW:=fH hW.symm;have B:=f8 hW.symm;have HW:Xr _:=hW.symm;obtain⟨u0,u1,-⟩:=oc B;have p:=P.XD kW;have EW:=E.XD p.XQ;obtain⟨p0,p1,p2⟩:=p.ply.ctx.cells;obtain⟨p3,p4⟩:=p.ply.cells;have a0:=p.ply.bag.lt;have a3:=aj B;clear hW;cases hk:(b.XS==3)
 ·have j:=hn hk;have J:Xr (gG w d k (n.map Ex.xs) (T.map Ex.xs) b=if nI w b.Xz=true then(gI w b.Xz d k (T.map Ex.xs),(T.map Ex.xs).take (T.length-(aP w b.Xz).length)) else((0,w[b.Xz].Xy),T.map Ex.xs)):=by
   show _=_;unfold gG;rw[hk,TR,TR,Bj w _ j];rfl
  have Z:Xr (∀A,ae [] W A->A.cell? ⟨N,0,none⟩=some (pointer (some ⟨o,H,none⟩))/\A.cell? ⟨y4.heap.size,1,none⟩=some (int i64 b.Xz)):=by
   intro A al;refine⟨(p.XD al).ply.ctx.cells.1,?_⟩;rw[ah (al.get B (by simp))];rfl
  have ac:Xr _:=fun(f:World) (F:ae [] W f)=>bF o H b.Xz w x f (EW.XD F).recd j;have HZ:Xr (∀f,ae [] (W.alloc (.cells #[int i64 0,string ⟨#[]⟩,slice none 0 0,slice none 0 0,string ⟨#[]⟩,int i64 0,int i64 0,int i64 0] 158)).drew f->f.cell? ⟨W.heap.size,0,none⟩=some (int i64 0)/\f.cell? ⟨W.heap.size,1,none⟩=some (string ⟨#[]⟩)/\f.cell? ⟨W.heap.size,2,none⟩=some (slice none 0 0)/\f.cell? ⟨W.heap.size,3,none⟩=some (slice none 0 0)/\f.cell? ⟨W.heap.size,4,none⟩=some (string ⟨#[]⟩)/\f.cell? ⟨W.heap.size,5,none⟩=some (int i64 0)/\f.cell? ⟨W.heap.size,6,none⟩=some (int i64 0)/\f.cell? ⟨W.heap.size,7,none⟩=some (int i64 0)/\∀ap,f.frozen? ⟨W.heap.size,ap,none⟩=false):=by
   intro f al;have q:=al.get (show(W.alloc (.cells #[int i64 0,string ⟨#[]⟩,slice none 0 0,slice none 0 0,string ⟨#[]⟩,int i64 0,int i64 0,int i64 0] 158)).drew.heap[W.heap.size]?=_ from Ts _ _) (by simp);refine⟨?_,?_,?_,?_,?_,?_,?_,?_,fun ap=>am q ap⟩ <;> (rw[ah q];rfl)
  have az:W.heap.size≠N:=by omega
  have aS:W.heap.size≠y4.heap.size:=by omega
  clear p1 p2 p3 p4;go_enter func240,ntmps240;go_upto_region 1 with fail
  rw[HW.o];go_upto_region 5 with fail
  go_region_held3 (fun A=>A.cell? ⟨N,0,none⟩=some (pointer (some ⟨o,H,none⟩))/\A.cell? ⟨y4.heap.size,1,none⟩=some (int i64 b.Xz)) (go_keep) (first | (go_at_call 98;refine(ac.o _ (by exact(ae.refl [] W).drew)).mono ?_;rintro e f ⟨rfl,F⟩;obtain⟨x0,x1⟩:=Z.o f (kr0.drew.trans F);unfold fR) | (go_at_call 98;refine(ac.o _ (by exact((ae.refl [] W).alloc _).drew)).mono ?_;rintro e f ⟨rfl,F⟩;obtain⟨x0,x1⟩:=Z.o f (((ae.refl [] W).alloc _).drew.trans F);obtain⟨q0,q1,q2,q3,q4,q5,q6,q7,qf⟩:=HZ.o f F;unfold fR))
  ·obtain⟨X,C⟩:∃X,X=f.alloc (.cells #[int i64 w[b.Xz].XS,string w[b.Xz].XU,slice (x (10+2*b.Xz)).ao w[b.Xz].Xy.length (x (10+2*b.Xz)).cap,slice (x (11+2*b.Xz)).ao w[b.Xz].XJ.length (x (11+2*b.Xz)).cap,string w[b.Xz].XX.XY,int i64 w[b.Xz].XX.XZ,int i64 w[b.Xz].XX.X0,int i64 w[b.Xz].til] 158):=⟨_,rfl⟩
   have G:ae [] W X:=(by rw[C];exact(kr0.drew.trans F).alloc _);have BX:=f8 C.symm;rw[<-C];clear C x0 x1 u0 u1 p0;obtain⟨m0,m1,m2,m3,m4,m5,m6,m7⟩:=wn BX;have PX:=p.XD G;obtain⟨x0,x1⟩:=Z.o X G;have c:Xr _:=Bp w b.Xz j;cases m:oA w[b.Xz].XS
   ·have a:Xr (gG w d k (n.map Ex.xs) (T.map Ex.xs) b=((0,w[b.Xz].Xy),T.map Ex.xs)):=(by show _=_;rw[J.o,c.o,m];rfl);clear J c;(go_upto_region 8 with (go_at_call 161;refine(dA w[b.Xz].XS _ _ _ _ _ _ _ _).mono ?_;rintro e Y ⟨rfl,z⟩;have K:=z.get BX (by simp)));obtain⟨-,-,an,-⟩:=wn K;have I:=E.recd.XP.syms b.Xz w[b.Xz] (Tm j);have kk:=(G.trans z);have r:=p.XD kk;clear m0 m1 m2 m3 m4 m5 m6 m7;go_wp2;exact Ty (v:=tuple #[slice (x (10+2*b.Xz)).ao w[b.Xz].Xy.length (x (10+2*b.Xz)).cap,int i64 0]) (by simp[results,results240,go_sem]) rfl
     ⟨T,⟨x (10+2*b.Xz),w[b.Xz].Xy⟩,by rw[a.o],by rw[a.o],r,⟨I.view.XD r.XQ,fun ar S=>⟨Tv (I.lt S) r.XQ.size,by have:=I.lt S;have:=P.hb;omega,fun L=>by have:=P.hin ar L;have:=I.lt S;omega⟩⟩,fun _=>by rw[a.o],Tp _⟩
   ·have a:Xr (gG w d k (n.map Ex.xs) (T.map Ex.xs) b=(gI w b.Xz d k (T.map Ex.xs),(T.map Ex.xs).take (T.length-(aP w b.Xz).length))):=(by show _=_;rw[J.o,c.o,m];rfl);have O:nI w b.Xz=true:=(by rw[c.o,m]);clear J c;(go_upto_region 7 with (go_at_call 161;refine(dA w[b.Xz].XS _ _ _ _ _ _ _ _).mono ?_;rintro e Y ⟨rfl,z⟩));obtain⟨y0,y1⟩:=Z.o Y (G.trans z);have r:=PX.XD z;clear m0 m1 m2 m3 m4 m5 m6 m7;go_wp2_with fail;refine(zF y3 Y N o H D l b.Xz w x s d k y9 L n T g E r j O af).mono ?_;rintro e w6 ⟨V,i,rfl,y,P6,F6,R,Q⟩;have M:Xr _:=y;clear y;go_wp2;exact Ty (v:=tuple #[slice i.hd.ao i.xs.length i.hd.cap,int i64 (gI w b.Xz d k (T.map Ex.xs)).1]) (by simp[results,results240,go_sem]) rfl
     ⟨V,i,by rw[a.o],by rw[a.o];exact M.o,P6,F6,fun hh=>by rw[a.o]at hh ⊢;rw[R hh,WF],Q⟩
  ·obtain⟨X,C⟩:∃X,X=(((((((f.setCell ⟨W.heap.size,0,none⟩ (int i64 w[b.Xz].XS)).setCell ⟨W.heap.size,1,none⟩ (string w[b.Xz].XU)).setCell ⟨W.heap.size,2,none⟩ (slice (x (10+2*b.Xz)).ao w[b.Xz].Xy.length (x (10+2*b.Xz)).cap)).setCell ⟨W.heap.size,3,none⟩ (slice (x (11+2*b.Xz)).ao w[b.Xz].XJ.length (x (11+2*b.Xz)).cap)).setCell ⟨W.heap.size,4,none⟩ (string w[b.Xz].XX.XY)).setCell ⟨W.heap.size,5,none⟩ (int i64 w[b.Xz].XX.XZ)).setCell ⟨W.heap.size,6,none⟩ (int i64 w[b.Xz].XX.X0)).setCell ⟨W.heap.size,7,none⟩ (int i64 w[b.Xz].til):=⟨_,rfl⟩
   have ag:=(((ae.refl [] W).alloc _).drew.trans F);have ai:=F.get (show(W.alloc (.cells #[int i64 0,string ⟨#[]⟩,slice none 0 0,slice none 0 0,string ⟨#[]⟩,int i64 0,int i64 0,int i64 0] 158)).drew.heap[W.heap.size]?=_ from Ts _ _) (by simp);have G:ae [] W X:=(by rw[C];exact(((((((ag.sr1 (Tp _) _).sr1 (Tp _) _).sr1 (Tp _) _).sr1 (Tp _) _).sr1 (Tp _) _).sr1 (Tp _) _).sr1 (Tp _) _).sr1 (Tp _) _);have BX:X.heap[W.heap.size]?=some (.cells #[int i64 w[b.Xz].XS,string w[b.Xz].XU,slice (x (10+2*b.Xz)).ao w[b.Xz].Xy.length (x (10+2*b.Xz)).cap,slice (x (11+2*b.Xz)).ao w[b.Xz].XJ.length (x (11+2*b.Xz)).cap,string w[b.Xz].XX.XY,int i64 w[b.Xz].XX.XZ,int i64 w[b.Xz].XX.X0,int i64 w[b.Xz].til] 158):=by
    rw[C,ab (ab (ab (ab (ab (ab (ab (ab ai _ _) _ _) _ _) _ _) _ _) _ _) _ _)];rfl
   rw[<-C];clear C x0 x1 u0 u1 p0 q0 q1 q2 q3 q4 q5 q6 q7 qf ag ai;obtain⟨m0,m1,m2,m3,m4,m5,m6,m7⟩:=wn BX;have PX:=p.XD G;obtain⟨x0,x1⟩:=Z.o X G;have c:Xr _:=Bp w b.Xz j;cases m:oA w[b.Xz].XS
   ·have a:Xr (gG w d k (n.map Ex.xs) (T.map Ex.xs) b=((0,w[b.Xz].Xy),T.map Ex.xs)):=(by show _=_;rw[J.o,c.o,m];rfl);clear J c;(go_upto_region 8 with (go_at_call 161;refine(dA w[b.Xz].XS _ _ _ _ _ _ _ _).mono ?_;rintro e Y ⟨rfl,z⟩;have K:=z.get BX (by simp)));obtain⟨-,-,an,-⟩:=wn K;have I:=E.recd.XP.syms b.Xz w[b.Xz] (Tm j);have kk:=(G.trans z);have r:=p.XD kk;clear m0 m1 m2 m3 m4 m5 m6 m7;go_wp2;exact Ty (v:=tuple #[slice (x (10+2*b.Xz)).ao w[b.Xz].Xy.length (x (10+2*b.Xz)).cap,int i64 0]) (by simp[results,results240,go_sem]) rfl
     ⟨T,⟨x (10+2*b.Xz),w[b.Xz].Xy⟩,by rw[a.o],by rw[a.o],r,⟨I.view.XD r.XQ,fun ar S=>⟨Tv (I.lt S) r.XQ.size,by have:=I.lt S;have:=P.hb;omega,fun L=>by have:=P.hin ar L;have:=I.lt S;omega⟩⟩,fun _=>by rw[a.o],Tp _⟩
   ·have a:Xr (gG w d k (n.map Ex.xs) (T.map Ex.xs) b=(gI w b.Xz d k (T.map Ex.xs),(T.map Ex.xs).take (T.length-(aP w b.Xz).length))):=(by show _=_;rw[J.o,c.o,m];rfl);have O:nI w b.Xz=true:=(by rw[c.o,m]);clear J c;(go_upto_region 7 with (go_at_call 161;refine(dA w[b.Xz].XS _ _ _ _ _ _ _ _).mono ?_;rintro e Y ⟨rfl,z⟩));obtain⟨y0,y1⟩:=Z.o Y (G.trans z);have r:=PX.XD z;clear m0 m1 m2 m3 m4 m5 m6 m7;go_wp2_with fail;refine(zF y3 Y N o H D l b.Xz w x s d k y9 L n T g E r j O af).mono ?_;rintro e w6 ⟨V,i,rfl,y,P6,F6,R,Q⟩;have M:Xr _:=y;clear y;go_wp2;exact Ty (v:=tuple #[slice i.hd.ao i.xs.length i.hd.cap,int i64 (gI w b.Xz d k (T.map Ex.xs)).1]) (by simp[results,results240,go_sem]) rfl
     ⟨V,i,by rw[a.o],by rw[a.o];exact M.o,P6,F6,fun hh=>by rw[a.o]at hh ⊢;rw[R hh,WF],Q⟩
 ·have a1:decide ((b.Xz:Int)<0)=false:=by simp
  by_cases u:b.Xz<n.length
  ·have a:Xr (gG w d k (n.map Ex.xs) (T.map Ex.xs) b=((0,n[b.Xz].xs),T.map Ex.xs)):=by
    show _=_;unfold gG;rw[hk,Tq rfl,TR,Tq u,Tn];simp[u]
   have ax:(b.Xz:Int)<n.length:=(by omega);have oS:aB W (g 0) (ig n):=p.ply.bag.X6 0;rcases oS.XO with ⟨_,h0,_⟩ | ⟨gs,av,es,-,aT,-⟩
   ·have:n.length=0:=h0;omega
   have cs:=oS.cell es b.Xz (xw n[b.Xz]) (tR n b.Xz u);have ad:=(p.ply.shs n[b.Xz] (TO u)).1;rw[es]at p3;unfold xw at cs;generalize n[b.Xz]=t at *;clear p0 p1 p2 p4 oS es;go_enter func240,ntmps240;(go_upto_region 1 with fail);rw[HW.o];(go_upto_region 2 with fail);go_quiet (fail);(go_upto_region 4 with fail);go_quiet (fail);go_wp2;exact Ty (v:=tuple #[slice t.hd.ao t.xs.length t.hd.cap,int i64 0]) (by simp[results,results240,go_sem]) rfl
    ⟨T,t,by rw[a.o],by rw[a.o],p.XD ((kr0.drewN _).drewN _),ad.XD ((kr0.drewN _).drewN _),fun _=>by rw[a.o],Tp _⟩
  ·have a:Xr (gG w d k (n.map Ex.xs) (T.map Ex.xs) b=((5,[]),T.map Ex.xs)):=by
    show _=_;unfold gG;rw[hk,Tq rfl,TR,To u]
   clear p0 p1 p2 p4;go_enter func240,ntmps240;(go_upto_region 1 with fail);rw[HW.o];(go_upto_region 2 with fail);go_quiet (fail);go_wp2;exact Ty (v:=tuple #[slice none 0 0,int i64 5]) (by simp[results,results240,go_sem]) rfl
    ⟨T,⟨⟨none,0⟩,[]⟩,by rw[a.o];rfl,by rw[a.o],p.XD (kr0.drewN _),tT _ _ _,by rw[a.o];simp,Tp _⟩
def kl(l:List St)(vs:Xt)(ms:List Bool)(S:List Xt×List Xt)(s:kC):Int×List Xt×List Xt :=
 if((gG l vs ms S.1 S.2 s).1.1==0)=true then
  (if(gG l vs ms S.1 S.2 s).1.2.length<=32 then(0,S.1++[(gG l vs ms S.1 S.2 s).1.2],(gG l vs ms S.1 S.2 s).2++[(gG l vs ms S.1 S.2 s).1.2]) else(10,S))
 else((gG l vs ms S.1 S.2 s).1.1,S)
theorem mV.turned{l:World}{g n k:Nat}{q r b c:List Ex}{f:Nat->Hd}(h:mV a y6 i z7 z5 g n k q r y2)(t:aD i y6 y2 l f)(j:bG l i 307 (iQ z7 z5 g n k b c f) (qj b c) f)(m:∀e∈b,sx y6 i y2 e.hd e.xs/\e.xs.length<=32)(o:∀e∈c,sx y6 i y2 e.hd e.xs/\e.xs.length<=32):mV a l i z7 z5 g n k b c f:=by
 refine⟨⟨j,fun e d=>⟨(m e d).1.turned t,(m e d).2⟩,fun e d=>⟨(o e d).1.turned t,(o e d).2⟩⟩,h.XQ.ofP t.1 ?_,h.hb,fun x p=>?_⟩
 ·rintro x (e | e)
  ·have:=h.hb;omega
  ·exact h.hin x e
 ·rcases t.2 x p with e | e
  ·exact h.hin x e
  ·exact TE h.XQ.size e
theorem NB(E:ET y3 o H D l w x s d k y9 L)(P:mV y3 y4 N o H D w.length l n T g)(hn:(b.XS==3)=false->b.Xz<w.length)(az:b.Xz<=2000000)(aS:T.length<=2000000)(a1:n.length<=2000000) :
  Calls prog 211 #[pointer (some ⟨N,0,none⟩),agg #[int i64 b.XS,int i64 b.Xz,string b.at_.XY,int i64 b.at_.XZ,int i64 b.at_.X0]] y4 fun e w'=>∃(R S:List Ex) (H':Nat->Hd),
   e=returned (int i64 (kl w d k (n.map Ex.xs,T.map Ex.xs) b).1)/\mV y3 w' N o H D w.length l R S H' /\
   (((kl w d k (n.map Ex.xs,T.map Ex.xs) b).1==0)=true->(R.map Ex.xs,S.map Ex.xs)=(kl w d k (n.map Ex.xs,T.map Ex.xs) b).2)/\S.length<=T.length+1/\R.length<=n.length+1:=by
 obtain⟨i1,Z,ai,al,an⟩:=TY M8;obtain⟨W,hW⟩:∃W,W=y4.alloc (.cells #[int i64 b.XS,int i64 b.Xz,string b.at_.XY,int i64 b.at_.XZ,int i64 b.at_.X0] 174):=⟨_,rfl⟩
 have kW:=fH hW.symm;have B:=f8 hW.symm;have HW:Xr _:=hW.symm;obtain⟨u0,u1,u2,u3,u4⟩:=oc B;have PW:=P.XD kW;have Y:=N6 y3 W N o H D l b w x s d k y9 L n T g E PW hn az aS;have V:Xr (∀q,gG w d k (n.map Ex.xs) (T.map Ex.xs) b=q->kl w d k (n.map Ex.xs,T.map Ex.xs) b=if(q.1.1==0)=true then(if q.1.2.length<=32 then(0,n.map Ex.xs++[q.1.2],q.2++[q.1.2]) else(10,n.map Ex.xs,T.map Ex.xs)) else(q.1.1,n.map Ex.xs,T.map Ex.xs)):=by
  intro q z;subst z;rfl
 have t:Xr _:=V.o _ rfl;generalize gG w d k (n.map Ex.xs) (T.map Ex.xs) b=Q at *;obtain⟨⟨q,xs⟩,t2⟩:=Q;simp only at Y t;clear hW V B;go_enter func211,ntmps211;go_upto_region 1 with fail
 rw[HW.o];go_wp2_with fail;refine Y.mono ?_;rintro e w2 ⟨c,a,rfl,aT,J,F2,ac,a0⟩;subst aT;cases z:(q==0)
 ·have av:(q != 0)=true:=by simp[bne,z]
  have A:Xr (kl w d k (n.map Ex.xs,T.map Ex.xs) b=(q,n.map Ex.xs,T.map Ex.xs)):=cg (by rw[t.o,z];rfl);clear t Y u0 u1 u2 u3 u4;go_wp2;go_ret;exact⟨n,c,g,au (by rw[A.o]),J,fun hh=>by rw[A.o]at hh;exact absurd (z.symm.trans hh) (by simp),by omega,by omega⟩
 ·have av:(q != 0)=false:=by simp[bne,z]
  by_cases y:a.xs.length<=32
  ·have ar:¬((a.xs.length:Int) > 32):=(by omega);have A:Xr (kl w d k (n.map Ex.xs,T.map Ex.xs) b=(0,n.map Ex.xs++[a.xs],t2++[a.xs])):=cg (by rw[t.o,z,Tq rfl,Tq y]);have ap:Xr _:=ac z;clear t Y u0 u1 u2 u3 u4 ac;(go_upto_region 6 with fail);have D2:=J.ply.bag;have p3:=J.ply.cells.1;have M:=D2.XD ((ae.refl [] w2).alloc (.cells #[slice a.hd.ao a.xs.length a.hd.cap] 61));have ax:Xr (∀j,j≠0->qj (n++[a]) c j=qj n c j):=by
    intro j r
    match j,r with
    | 0,r=>exact absurd rfl r
    | 1,_=>rfl
    | m+2,_=>rfl
   have ad:Xr (∀j,j≠1->qj (n++[a]) (c++[a]) j=qj (n++[a]) c j):=by
    intro j r
    match j,r with
    | 0,_=>rfl
    | 1,r=>exact absurd rfl r
    | m+2,_=>rfl
   go_wp2_with (at_builtin;refine aL _ rfl (.tmp 23) (.tmp 25) 218 rfl i1 (slice none 0 0) 24 (g 0) (ig n) underlying218 Z ai al an rfl TQ rfl (by exact M.X6 0) ⟨_,0,none⟩ 1 1 [slice a.hd.ao a.xs.length a.hd.cap] rfl rfl ?e1 ?e2 TQ ?e3 ?e4 ?_)
   case e1=>intro j u r;match j,r with | 0,r=>simp at r;subst r;simp[Addr.add]
   case e2=>intro u hu;simp at hu;subst hu;rfl
   case e3=>simp only[ig];unfold maxLen;omega
   case e4=>simp only[ig];omega
   intro K f w4 af F i;obtain⟨k4,f4,I⟩:=M.app (cs':=iQ o H D w.length l (n++[a]) c (iI g 0 ⟨some ⟨K,0,none⟩,f⟩)) (rows':=qj (n++[a]) c) 3 0 K f ((ig n).n+1) _ af (vu n a) F (by simpa using i) ax.o (slice (g 0).ao n.length (g 0).cap) rfl (by simp[iQ,iI,ig]);clear af F i M p3;(go_upto_region 7 with fail);generalize hX:w4.setCell ⟨N,3,none⟩ (slice (some ⟨K,0,none⟩) ((ig n).n+1) f)=X at I ⊢;have DX:=I.o.1;have TX:Xr _:=I.o.2.first (kr0.alloc _);have p4:=DX.cell 4;simp only[iQ,List.getElem?_cons_succ,List.getElem?_cons_zero]at p4;have O:=DX.XD ((ae.refl [] X).alloc (.cells #[slice a.hd.ao a.xs.length a.hd.cap] 61));clear hX k4 f4;go_wp2_with (at_builtin;refine aL _ rfl (.tmp 33) (.tmp 35) 218 rfl i1 (slice none 0 0) 24 (iI g 0 ⟨some ⟨K,0,none⟩,f⟩ 1) (ig c) underlying218 Z ai al an rfl TQ rfl (by exact O.X6 1) ⟨_,0,none⟩ 1 1 [slice a.hd.ao a.xs.length a.hd.cap] rfl rfl ?e1 ?e2 TQ ?e3 ?e4 ?_)
   case e1=>intro j u r;match j,r with | 0,r=>simp at r;subst r;simp[Addr.add]
   case e2=>intro u hu;simp at hu;subst hu;rfl
   case e3=>simp only[ig];unfold maxLen;omega
   case e4=>simp only[ig];omega
   intro g6 C w6 ag G p;obtain⟨k6,f6,U⟩:=O.app (cs':=iQ o H D w.length l (n++[a]) (c++[a]) (iI (iI g 0 ⟨some ⟨K,0,none⟩,f⟩) 1 ⟨some ⟨g6,0,none⟩,C⟩)) (rows':=qj (n++[a]) (c++[a])) 4 1 g6 C ((ig c).n+1) _ ag (vu c a) G (by simpa using p) ad.o (slice (iI g 0 ⟨some ⟨K,0,none⟩,f⟩ 1).ao c.length (iI g 0 ⟨some ⟨K,0,none⟩,f⟩ 1).cap) rfl (by simp[iQ,iI,ig]);have T6:Xr _:=aD.trans TX.o (U.o.2.first (kr0.alloc _));clear ag G p O p4;go_wp2;go_ret;refine⟨n++[a],c++[a],_,au (by rw[A.o]),J.turned T6.o U.o.1 (fun e v=>?_) (fun e v=>?_),fun _=>by rw[A.o];simp[ap.o],by simp;omega,by simp⟩
   ·rw[Uf]at v;rcases v with v | v
    ·exact J.ply.shs e v
    ·simp at v;subst v;exact⟨F2,y⟩
   ·rw[Uf]at v;rcases v with v | v
    ·exact J.ply.ths e v
    ·simp at v;subst v;exact⟨F2,y⟩
  ·have ar:(a.xs.length:Int) > 32:=(by omega);have A:Xr (kl w d k (n.map Ex.xs,T.map Ex.xs) b=(10,n.map Ex.xs,T.map Ex.xs)):=cg (by rw[t.o,z,Tq rfl,To y]);clear t Y u0 u1 u2 u3 u4;go_wp2;go_ret;exact⟨n,c,g,au (by rw[A.o]),J,by rw[A.o];simp,by omega,by omega⟩
def Dp(XX:Pl)(goal:Xt)(th:List Xt):pt :=
 match th with
 | []=>(12,XX)
 | [x]=>if zl x goal=true then cY else(12,XX)
 | _ :: _ :: _=>(11,XX)
def kz(l:List St)(vs:Xt)(ms:List Bool)(XX:Pl)(goal:Xt):List kC->List Xt×List Xt->pt
 | [],S=>Dp XX goal S.2
 | s :: r,S=>if((kl l vs ms S s).1==0)=true then kz l vs ms XX goal r (kl l vs ms S s).2 else((kl l vs ms S s).1,s.at_)
def fQ(l:List St)(a:Nat)(s:St)(steps:List kC):pt:=kz l (rP l a) (gK l a (rP l a)) s.XX s.Xy steps ([],[])
theorem FX(a:y<f.length) :
  kz w d k y5 ya (f.drop y) y7=if((kl w d k y7 f[y]).1==0)=true then kz w d k y5 ya (f.drop (y+1)) (kl w d k y7 f[y]).2 else((kl w d k y7 f[y]).1,f[y].at_):=by
 rw[TU a];rfl
theorem DK(a:¬y<f.length) :
  kz w d k y5 ya (f.drop y) y7=Dp y5 ya y7.2:=by
 rw[UR (by omega)];rfl
theorem Lo(l:List kC)(k:Nat)(a:k<l.length)(j:Nat)(d:j<5):(yJ l)[k*5+j]?=(lN l[k])[j]?:=by
 induction l generalizing k with
 | nil=>simp at a
 | cons s r c =>
  have e:yJ (s :: r)=lN s++yJ r:=rfl;rw[e];cases k with
  | zero=>rw[TP (by simp[lN];omega)];simp
  | succ k =>
   rw[TI (by simp[lN];omega)];have b:(k+1)*5+j-(lN s).length=k*5+j:=by simp[lN];omega
   rw[b,c k (by simpa using a)];rfl
theorem aB.step{h:Hd}{l:List kC}(o:aB a h (gq l))(k:Nat)(n:k<l.length) :
  ∃g,h.ao=some ⟨g,0,none⟩/\l.length<=h.cap/\h.cap<=9223372036854775807/\a.cell? ⟨g,k*5,none⟩=some (int i64 l[k].XS)/\a.cell? ⟨g,k*5+1,none⟩=some (int i64 l[k].Xz)/\a.cell? ⟨g,k*5+2,none⟩=some (string l[k].at_.XY)/\a.cell? ⟨g,k*5+3,none⟩=some (int i64 l[k].at_.XZ)/\a.cell? ⟨g,k*5+4,none⟩=some (int i64 l[k].at_.X0):=by
 rcases o.XO with ⟨_,i,_⟩ | ⟨g,e,b,q,f,d,-⟩
 ·have:l.length=0:=i;omega
 ·have c:=fun j (m:j<5) v (p:(lN l[k])[j]?=some v)=>o.cell b (k*5+j) v ((Lo l k n j m).trans p);exact⟨g,b,f,by unfold maxLen at d;exact d,c 0 (by omega) _ rfl,c 1 (by omega) _ rfl,c 2 (by omega) _ rfl,c 3 (by omega) _ rfl,c 4 (by omega) _ rfl⟩
structure Ha(l:List St)(steps:List kC):Prop where
 len:steps.length<=1100000
 num:∀s∈steps,s.Xz<=2000000
 named:∀s∈steps,(s.XS==3)=false->s.Xz<l.length
theorem LV(hr:fL S o H w x)(ok:jU w)(ha:l<w.length)(an:iG S D w w.length s)(hO:aB S L (gq f))(O:Ha w f) :
  Calls prog 163 #[pointer (some ⟨o,H,none⟩),int i64 l,slice (some ⟨D,0,none⟩) w.length w.length,slice L.ao f.length L.cap] S fun e a =>
   e=returned (iu (fQ w l w[l] f))/\ae [] S a:=by
 have a3:=ok.len;have bf:=O.len;have bl:=ok.syms l ha;obtain⟨AO,ad⟩:=bn (L.ao);rw[ad.o];obtain⟨W,hW⟩:∃W,W=S.alloc (.cells #[int i64 0,string ⟨#[]⟩,int i64 0,int i64 0] 165):=⟨_,rfl⟩
 have kW:=fH hW.symm;have BF:W.heap[S.heap.size]?=some (.cells bK 165):=by rw[hW];exact Ts _ _
 have HW:Xr _:=hW.symm;have bk:(rP w l).length<=w.length:=CC w l w.length;clear hW;go_enter func163,ntmps163;go_upto_region 1 with fail
 rw[HW.o];go_upto_region 2 with (go_at_call 209;refine(rO o H l w x _ (by exact hr.XD kW) ok).mono ?_;rintro e w2 ⟨a0,rfl,aS,a6,k2⟩)
 have K2:=kW.trans k2;go_wp2_with (go_at_call 210;refine(Mh o H l w x a0 (rP w l) _ (by exact hr.XD K2) ok (by exact aS) (by omega)).mono ?_;rintro e n ⟨tb,hv,hm,rfl,A3,bg,bd,k3⟩);have K3:=K2.trans k3;have ac:=(k2.trans k3).get BF (by simp);have E:ET n o H D tb w x s (rP w l) (gK w l (rP w l)) hv hm:=⟨hr.XD K3,ok,an.XD K3,A3,mB _ _ _ _,by omega⟩;have G:aB n L (gq f):=hO.XI (fun b R=>K3.block b (hO.lt R) (by simp));have P4:mV n (n.alloc (.cells #[pointer (some ⟨o,H,none⟩),slice (some ⟨D,0,none⟩) w.length w.length,pointer (some ⟨tb,0,none⟩),slice none 0 0,slice none 0 0] 307)) n.heap.size o H D w.length tb [] [] nM:=by
  refine⟨⟨⟨Ts _ _,?_,fun i j _=>TG rfl,fun i e=>by simp[nM,Hd.XR]at e⟩,by simp,by simp⟩,kr0.alloc _,Tp _,fun b R=>by obtain⟨i,hi⟩:=R;simp[nM,Hd.XR]at hi⟩;intro i
  match i with
  | 0=>exact Tw _ _ _ _
  | 1=>exact Tw _ _ _ _
  | m+2=>exact Tw _ _ _ _
 go_loopg [11] f.length (fun gk iv wr=>∃(i:Nat) (J g:List Ex) (N:Nat->Hd),i<=f.length/\gk=f.length-i/\iv=int i64 i/\J.length<=i/\g.length<=i/\Xr (fQ w l w[l] f=kz w (rP w l) (gK w l (rP w l)) w[l].XX w[l].Xy (f.drop i) (J.map Ex.xs,g.map Ex.xs))/\mV n wr n.heap.size o H D w.length tb J g N)
 ·exact⟨0,[],[],nM,by omega,by omega,rfl,by simp,by simp,rfl,P4⟩
 obtain⟨i,J,g,N,hi,hg,rfl,be,bj,hR,P⟩:=hrel;clear P4;have B:=P.XQ.get ac (by simp);obtain⟨p,r,t,u⟩:=dy B;have K:=am B;have KW:=K3.trans P.XQ;by_cases d:i<f.length
 ·have ai:aB wr L (gq f):=G.XI (fun b R=>P.XQ.block b (G.lt R) (by simp));obtain⟨gp,ep,a2,az,d0,d1,d2,d3,d4⟩:=ai.step i d;obtain rfl:AO=some ⟨gp,0,none⟩:=ad.o.symm.trans ep;have h1:=O.num f[i] (TO d);have h2:=O.named f[i] (TO d);have c:Xr _:=hR.o.trans (FX w (rP w l) (gK w l (rP w l)) w[l].XX w[l].Xy f (J.map Ex.xs,g.map Ex.xs) i d);have PA:=NB n wr n.heap.size o H D tb f[i] w x s (rP w l) (gK w l (rP w l)) hv hm J g N E P h2 h1 (by omega) (by omega);have af:Xr (∀a,ae [] n a->a.cell? ⟨gp,i*5+2,none⟩=some (string f[i].at_.XY)/\a.cell? ⟨gp,i*5+3,none⟩=some (int i64 f[i].at_.XZ)/\a.cell? ⟨gp,i*5+4,none⟩=some (int i64 f[i].at_.X0)):=by
   intro a k;obtain⟨a5,ag,-,-,-,-,q2,q3,q4⟩:=(G.XI (w':=a) (fun b R=>k.block b (G.lt R) (by simp))).step i d;rw[ep]at ag;cases ag
   exact⟨q2,q3,q4⟩
  clear hR ep ai;generalize f[i]=st at *;obtain⟨sk,sn,U,V,T⟩:=st;simp only at d0 d1 d2 d3 d4 PA af c;generalize kl w (rP w l) (gK w l (rP w l)) (J.map Ex.xs,g.map Ex.xs) ⟨sk,sn,⟨U,V,T⟩⟩=Q at *;obtain⟨q,Q2⟩:=Q;simp only at PA c;cases hq:(q==0)
  ·have aT:(q != 0)=true:=(by simp[bne,hq]);have z:Xr (fQ w l w[l] f=(q,⟨U,V,T⟩)):=cg (by rw[c.o,To (by rw[hq];simp)]);clear c;(go_upto_region 8 with (go_at_call 211;refine PA.mono ?_;rintro e Y ⟨ar,av,H5,rfl,P5,al,-,-⟩));obtain⟨c2,c3,c4⟩:=af.o Y P5.XQ;have M:=P5.XQ.get ac (by simp);clear p r t u K d0 d1 d2 d3 d4;obtain⟨p,r,t,u⟩:=dy M;have K:=am M;have K5:=K3.trans P5.XQ;go_wp2;exact Ty (v:=agg #[int i64 q,string U,int i64 V,int i64 T]) (by simp[results,results163,go_sem,p,r,t,u]) rfl
    ⟨by rw[z.o];rfl,lK (F:=S.heap.size) K5 (Tp _) _ _ _ _⟩
  ·have aT:(q != 0)=false:=(by simp[bne,hq]);have z:Xr (fQ w l w[l] f=kz w (rP w l) (gK w l (rP w l)) w[l].XX w[l].Xy (f.drop (i+1)) Q2):=cg (by rw[c.o,Tq hq]);clear c;go_wp2_with (go_at_call 211;refine PA.mono ?_;rintro e Y ⟨ar,av,H5,rfl,P5,al,ba,bc⟩);go_roundg (f.length-(i+1))
   ·exact⟨i+1,ar,av,H5,by omega,rfl,by go_num,by omega,by omega,by show _=_;rw[al hq];exact z.o,P5⟩
   omega
 ·have Z:Xr _:=hR.o.trans (DK w (rP w l) (gK w l (rP w l)) w[l].XX w[l].Xy f (J.map Ex.xs,g.map Ex.xs) i d);have Er:=E.XD P.XQ;clear hR;go_upto_region 10 with (go_at_call 98;refine(bF o H l w x _ (by exact Er.recd) ha).mono ?_;rintro e Y ⟨rfl,k5⟩;unfold fR)
  obtain⟨X,hX⟩:∃X,X=Y.alloc (.cells #[int i64 w[l].XS,string w[l].XU,slice (x (10+2*l)).ao w[l].Xy.length (x (10+2*l)).cap,slice (x (11+2*l)).ao w[l].XJ.length (x (11+2*l)).cap,string w[l].XX.XY,int i64 w[l].XX.XZ,int i64 w[l].XX.X0,int i64 w[l].til] 158):=⟨_,rfl⟩
  have kX:ae [] wr X:=by rw[hX];exact k5.alloc _
  have BX:=f8 hX.symm;rw[<-hX];have PX:=P.XD kX;have M:=kX.get B (by simp);clear hX p r t u K;obtain⟨p,r,t,u⟩:=dy M;have K:=am M;have KX:=KW.trans kX;obtain⟨-,-,m2,-,m4,m5,m6,-⟩:=wn BX;have p4:=PX.ply.cells.2;rcases g with _ | ⟨b,g⟩
  ·have z:Xr (fQ w l w[l] f=(12,w[l].XX)):=Z.o;simp only[List.length_nil]at p4;clear Z;(go_upto_region 12 with fail);go_quiet (fail);go_wp2;exact Ty (v:=agg #[int i64 12,string w[l].XX.XY,int i64 w[l].XX.XZ,int i64 w[l].XX.X0]) (by simp[results,results163,go_sem,p,r,t,u]) rfl
    ⟨by rw[z.o];rfl,lK (F:=S.heap.size) (KX.drewN _) (Tp _) _ _ _ _⟩
  ·rcases g with _ | ⟨y,g⟩
   ·have hE:fQ w l w[l] f=if zl b.xs w[l].Xy=true then cY else(12,w[l].XX):=Z.o;have A:Xr _:=hE;have oT:aB X (N 1) (ig [b]):=PX.ply.bag.X6 1;rcases oT.XO with ⟨_,h0,_⟩ | ⟨gt,a1,et,-,a4,-⟩
    ·simp[ig]at h0
    have ct:=oT.cell et 0 (xw b) rfl;unfold xw at ct;rw[et]at p4;simp only[List.length_cons,List.length_nil]at p4;have ap:=(PX.ply.ths b (by simp));have C:Xr _:=fun(a:World) (k:ae [] X a)=>zM b.hd (x (10+2*l)) b.xs w[l].Xy a (ap.1.view.XD k) (((Er.XD (kX.trans k)).recd.XP.syms l w[l] (Tm ha)).view) (by omega) (by omega);have HC:Xr (∀a,ae [] X a->a.cell? ⟨n.heap.size,4,none⟩=some (slice (some ⟨gt,0,none⟩) 1 (N 1).cap)/\a.cell? ⟨gt,0,none⟩=some (slice b.hd.ao b.xs.length b.hd.cap)/\a.cell? ⟨Y.heap.size,2,none⟩=some (slice (x (10+2*l)).ao w[l].Xy.length (x (10+2*l)).cap)):=by
     intro a k;refine⟨?_,((PX.XD k).ply.bag.X6 1).cell et 0 (xw b) rfl,?_⟩
     ·rw[<-et];exact(PX.XD k).ply.cells.2
     ·rw[ah (k.get BX (by simp))];rfl
    clear hE Z et oT;(go_upto_region 12 with fail);cases I:zl b.xs w[l].Xy
    ·have z:Xr (fQ w l w[l] f=(12,w[l].XX)):=(by show _=_;rw[A.o,I];rfl);rw[I]at C;clear A;go_region_held3 (fun a=>a.cell? ⟨n.heap.size,4,none⟩=some (slice (some ⟨gt,0,none⟩) 1 (N 1).cap)/\a.cell? ⟨gt,0,none⟩=some (slice b.hd.ao b.xs.length b.hd.cap)/\a.cell? ⟨Y.heap.size,2,none⟩=some (slice (x (10+2*l)).ao w[l].Xy.length (x (10+2*l)).cap)) (go_keep) (first | (go_at_call 212;refine(C.o _ (by exact(ae.refl [] X).drew)).mono ?_;rintro e w6 ⟨rfl,k6⟩;obtain⟨x0,x1,x2⟩:=HC.o w6 ((ae.refl [] X).drew.trans k6)))
     all_goals
      have kk:=((ae.refl [] X).drew.trans k6);have ax:=kk.get BX (by simp);have B6:=kk.get M (by simp);clear p r t u K m2 m4 m5 m6 p4 ct;obtain⟨p,r,t,u⟩:=dy B6;have K:=am B6;obtain⟨-,-,-,-,m4,m5,m6,-⟩:=wn ax;go_wp2;exact Ty (v:=agg #[int i64 12,string w[l].XX.XY,int i64 w[l].XX.XZ,int i64 w[l].XX.X0]) (by simp[results,results163,go_sem,p,r,t,u]) rfl ⟨by rw[z.o];rfl,lK (F:=S.heap.size) (KX.trans kk) (Tp _) _ _ _ _⟩
    ·have z:Xr (fQ w l w[l] f=cY):=(by show _=_;rw[A.o,I];rfl);rw[I]at C;clear A;go_region_held3 (fun a=>a.cell? ⟨n.heap.size,4,none⟩=some (slice (some ⟨gt,0,none⟩) 1 (N 1).cap)/\a.cell? ⟨gt,0,none⟩=some (slice b.hd.ao b.xs.length b.hd.cap)/\a.cell? ⟨Y.heap.size,2,none⟩=some (slice (x (10+2*l)).ao w[l].Xy.length (x (10+2*l)).cap)) (go_keep) (first | (go_at_call 212;refine(C.o _ (by exact(ae.refl [] X).drew)).mono ?_;rintro e w6 ⟨rfl,k6⟩;obtain⟨x0,x1,x2⟩:=HC.o w6 ((ae.refl [] X).drew.trans k6)))
     all_goals
      have kk:=((ae.refl [] X).drew.trans k6);have B6:=kk.get M (by simp);clear p r t u K m2 m4 m5 m6 p4 ct;obtain⟨p,r,t,u⟩:=dy B6;have K:=am B6;go_wp2;exact Ty (v:=agg #[int i64 0,string ⟨#[]⟩,int i64 0,int i64 0]) (by simp[results,results163,go_sem,p,r,t,u]) rfl ⟨by rw[z.o];rfl,lK (F:=S.heap.size) (KX.trans kk) (Tp _) _ _ _ _⟩
   ·have z:Xr (fQ w l w[l] f=(11,w[l].XX)):=Z.o;have a7:((g.length:Int)+1+1 > 1):=(by omega);simp only[List.length_cons]at p4;clear Z;go_wp2;exact Ty (v:=agg #[int i64 11,string w[l].XX.XY,int i64 w[l].XX.XZ,int i64 w[l].XX.X0]) (by simp[results,results163,go_sem,p,r,t,u]) rfl
     ⟨by rw[z.o];rfl,lK (F:=S.heap.size) KX (Tp _) _ _ _ _⟩
structure jA(w:World)(b o:Nat)(l:List St)(H:Nat->Hd)(g:Nat)(L:List Rw):Prop where
 recd:fL w b o l H
 cell:∃arr t,w.heap[b]?=some (.cells arr t)/\arr[o+2]?=some (slice (some ⟨g,0,none⟩) L.length L.length)
 arr:w.heap[g]?=some (.cells (lG L).toArray 38)
theorem jA.XD(h:jA a i z7 I y2 z5 z6)(k:ae [] a y6):jA y6 i z7 I y2 z5 z6:=by
 obtain⟨b,t,c,d⟩:=h.cell;exact⟨h.recd.XD k,⟨b,t,k.get c (by simp),d⟩,k.get h.arr (by simp)⟩
theorem jA.at2(h:jA a i z7 I y2 z5 z6):a.cell? ⟨i,z7+2,none⟩=some (slice (some ⟨z5,0,none⟩) z6.length z6.length):=by
 obtain⟨b,t,c,d⟩:=h.cell;rw[ah c];exact d
theorem jA.row(h:jA a i z7 I y2 z5 z6)(k:Nat)(d:k<z6.length) :
  a.cell? ⟨z5,k*6,none⟩=some (string z6[k].XU)/\a.cell? ⟨z5,k*6+1,none⟩=some (int i64 z6[k].XE)/\a.cell? ⟨z5,k*6+2,none⟩=some (int i64 z6[k].why)/\a.cell? ⟨z5,k*6+3,none⟩=some (string z6[k].at_.XY)/\a.cell? ⟨z5,k*6+4,none⟩=some (int i64 z6[k].at_.XZ)/\a.cell? ⟨z5,k*6+5,none⟩=some (int i64 z6[k].at_.X0):=by
 have c:=fun j (b:j<6) v (e:(nR z6[k])[j]?=some v)=>(ah h.arr (k*6+j)).trans ((by simp only[List.getElem?_toArray];exact(IQ z6 k d j b).trans e));exact⟨c 0 (by omega) _ rfl,c 1 (by omega) _ rfl,c 2 (by omega) _ rfl,c 3 (by omega) _ rfl,c 4 (by omega) _ rfl,c 5 (by omega) _ rfl⟩
def eN(L:List Rw)(n:Nat):Int:=(L.getD n qr).XE
set_option maxRecDepth 512
theorem om(h:jA S H D w s zt M) :
  Calls prog 96 #[pointer (some ⟨H,D,none⟩),int i64 l] S fun e d=>e=returned (int i64 (eN M l))/\d=S:=by
 have f:=h.at2;by_cases a:l<M.length
 ·have c:Xr (eN M l=M[l].XE):=by show _=_;unfold eN;rw[Tn,Tm a];rfl
  obtain⟨-,g,-,-,-,-⟩:=h.row l a;have b:¬((l:Int) ≥ M.length):=by omega
  go_enter func96,ntmps96;go_wp2;go_ret;exact⟨au (by rw[c.o]),rfl⟩
 ·have c:Xr (eN M l=0):=by show _=_;unfold eN;rw[Tn,Um (by omega)];rfl
  have b:(l:Int) ≥ M.length:=by omega
  go_enter func96,ntmps96;go_wp2;go_ret;exact⟨au (by rw[c.o]),rfl⟩
def uG(steps:List kC):Option Nat:=(List.range steps.length).find? (fun i=>match steps[i]? with | some s=>s.XS==1 | none=>false)
theorem uY(v:aB S L (gq f))(B:f.length<=1073741824) :
  Calls prog 162 #[slice L.ao f.length L.cap] S fun e x=>e=returned (int i64 (oC (uG f)))/\x=S:=by
 obtain⟨r,c⟩:=bn (L.ao);rw[c.o];go_enter func162,ntmps162;go_wp2
 go_loopg [3] f.length (fun g i wr=>∃k:Nat,k<=f.length/\g=f.length-k/\i=int i64 k/\Xr (∀i,i<k->(match f[i]? with | some s=>s.XS==1 | none=>false)=false)/\wr=S)
 ·exact⟨0,by omega,by omega,rfl,fun i q=>by omega,rfl⟩
 obtain⟨k,A,z,rfl,a,rfl⟩:=hrel;by_cases b:k<f.length
 ·obtain⟨u,n,m,l,y,-⟩:=v.step k b;obtain rfl:r=some ⟨u,0,none⟩:=c.o.symm.trans n;clear n;have d:Xr (f[k]?=some f[k]):=Tm b;generalize f[k]=w at *;cases p:(w.XS==1)
  ·have t:Xr (∀i,i<k+1->(match f[i]? with | some s=>s.XS==1 | none=>false)=false):=by
    intro i q;by_cases e:i=k
    ·subst e;rw[d.o];exact p
    ·exact a.o i (by omega)
   clear d a;go_wp2;go_roundg (f.length-(k+1))
   ·exact⟨k+1,by omega,rfl,by go_num,t,rfl⟩
   omega
  ·have j:Xr (uG f=some k):=pa b (by rw[d.o];exact p) a.o;clear d a;go_wp2;go_ret;exact⟨au (by rw[j.o];rfl),rfl⟩
 ·have j:Xr (uG f=none):=nP (fun i q=>a.o i (by omega));clear a;go_wp2;go_ret;exact⟨au (by rw[j.o];rfl),rfl⟩
def xf(v:Int):Bool:=v==2||v==3||v==4
def mZ(L:List Rw)(steps:List kC):Bool:=steps.all (fun s=>!(s.XS==2) || !(xf (eN L s.Xz)))
theorem Qe(c:y<f.length)(a:(f[y].XS==2)=true)(b:xf (eN z4 f[y].Xz)=true):mZ z4 f=false:=by
 cases e:mZ z4 f
 ·rfl
 ·unfold mZ at e;rw[Uv]at e;have:=e _ (TO c);rw[a,b]at this;cases this
theorem NV(h:∀k (a:k<f.length),(!(f[k].XS==2) || !(xf (eN z4 f[k].Xz)))=true):mZ z4 f=true:=by
 unfold mZ;rw[Uv];intro x b;obtain⟨k,a,rfl⟩:=Ux b;exact h k a
theorem NU(h:jA S D l w s zt z4)(J:aB S L (gq f))(K:f.length<=1100000) :
  Calls prog 164 #[pointer (some ⟨D,l,none⟩),slice L.ao f.length L.cap] S fun e M=>e=returned (bool (mZ z4 f))/\M=S:=by
 obtain⟨F,o⟩:=bn (L.ao);rw[o.o];go_enter func164,ntmps164;go_wp2
 go_loopg [5] f.length (fun zt i wr=>∃k:Nat,k<=f.length/\zt=f.length-k/\i=int i64 k/\Xr (∀i (n:i<f.length),i<k->(!(f[i].XS==2) || !(xf (eN z4 f[i].Xz)))=true)/\wr=S)
 ·exact⟨0,by omega,by omega,rfl,fun i _ n=>by omega,rfl⟩
 obtain⟨k,Q,P,rfl,d,rfl⟩:=hrel;by_cases q:k<f.length
 ·obtain⟨G,C,B,x,N,O,-⟩:=J.step k q;obtain rfl:F=some ⟨G,0,none⟩:=o.o.symm.trans C;clear C;have b:Xr ((!(f[k].XS==2) || !(xf (eN z4 f[k].Xz)))=true->∀i (n:i<f.length),i<k+1->(!(f[i].XS==2) || !(xf (eN z4 f[i].Xz)))=true):=by
   intro H i n I;by_cases e:i=k
   ·subst e;exact H
   ·exact d.o i n (by omega)
  have a:Xr _:=Qe z4 f k q;have p:=om D l f[k].Xz w s zt z4 wr h;clear d;generalize f[k]=t at *;cases m:(t.XS==2)
  ·have z:(t.XS != 2)=true:=(by simp[bne,m]);have u:Xr _:=(b.o (by rw[m];rfl));clear b a p;go_wp2;go_roundg (f.length-(k+1))
   ·exact⟨k+1,by omega,rfl,by go_num,u.o,rfl⟩
   omega
  ·have z:(t.XS != 2)=false:=(by simp[bne,m]);have g:Xr (∀v,xf v=(v==2||v==3||v==4)):=fun _=>rfl;generalize eN z4 t.Xz=V at *;cases r:(V==2)
   ·cases y:(V==3)
    ·cases E:(V==4)
     ·have u:Xr _:=b.o (by rw[g.o,r,y,E];simp);clear b a;go_wp2_with (go_at_call 96;refine p.mono ?_;rintro e A ⟨rfl,c⟩;rw[c]);go_roundg (f.length-(k+1))
      ·exact⟨k+1,by omega,rfl,by go_num,u.o,rfl⟩
      omega
     ·have j:Xr _:=a.o m (by rw[g.o,r,y,E];rfl);clear b a;go_wp2_with (go_at_call 96;refine p.mono ?_;rintro e A ⟨rfl,c⟩;rw[c]);go_ret;exact⟨aF j.o.symm,rfl⟩
    ·have j:Xr _:=a.o m (by rw[g.o,r,y];rfl);clear b a;go_wp2_with (go_at_call 96;refine p.mono ?_;rintro e A ⟨rfl,c⟩;rw[c]);go_ret;exact⟨aF j.o.symm,rfl⟩
   ·have j:Xr _:=a.o m (by rw[g.o,r];rfl);clear b a;go_wp2_with (go_at_call 96;refine p.mono ?_;rintro e A ⟨rfl,c⟩;rw[c]);go_ret;exact⟨aF j.o.symm,rfl⟩
 ·have j:Xr (mZ z4 f=true):=NV z4 f (fun i n=>d.o i n (by omega));clear d;go_wp2;go_ret;exact⟨aF j.o.symm,rfl⟩
theorem zP{t:Xs}(h:jG I t i=some z7):z7<I.length:=by
 unfold jG at h;have:=Ur h;simpa using this
def G3(l:List St)(s:kC):Prop:=s.Xz<=1020000/\((s.XS==3)=false->s.Xz<l.length)
theorem Kn(g:0<w.length)(i:w.length<=10000)(c:List (Xs×Pl))(a:List kC)(h:∀s∈a,G3 w s)(N:Nat)(f:a.length<=N) :
  (∀s∈(dM w zt y5 c a).1,G3 w s)/\(dM w zt y5 c a).1.length<=N+c.length:=by
 induction c generalizing a N with
 | nil =>
  rw[dM];split
  ·exact⟨by simp,by simp⟩
  ·exact⟨h,by simpa using f⟩
 | cons x r e =>
  obtain⟨t,p⟩:=x;rw[dM];split
  ·have:=e (a++[⟨1,0,p⟩]) (by intro s b;simp at b;rcases b with b | rfl;exact h s b;exact⟨by simp,fun _=>g⟩) (N+1) (by simp;omega);exact⟨this.1,by have:=this.2;simp;omega⟩
  ·split
   ·exact⟨by simp,by simp⟩
   ·next n j =>
    have d:=zP j;have:=e (a++[⟨2,n,p⟩]) (by intro s b;simp at b;rcases b with b | rfl;exact h s b;exact⟨by simp only;omega,fun _=>d⟩) (N+1) (by simp;omega);exact⟨this.1,by have:=this.2;simp;omega⟩
structure zc(l:List St)(c:lB):Prop where
 XW:∀n∈c.XW,n<l.length
 XL:∀n∈c.XL,n<=1020000
 steps:∀s∈c.steps,G3 l s
theorem zc.letter{c:lB}(g:zc I c)(h:jm c i)(f:0<I.length)(j:I.length<=10000)(l:i<=1020000)(n:Nat)(p:Pl):zc I (bI c n p).2:=by
 have k:=h.steps;unfold bI;split
 ·unfold fk dO;split
  ·next b =>
   refine⟨g.XW,g.XL,?_⟩;intro s a;simp at a;rcases a with a | rfl
   ·exact g.steps s a
   ·have:=g.XW _ (TO b);rw[Tm b];exact⟨by simp only[Option.getD_some];omega,fun _=>this⟩
  ·split
   ·next b =>
    refine⟨g.XW,g.XL,?_⟩;intro s a;simp at a;rcases a with a | rfl
    ·exact g.steps s a
    ·have:=g.XL _ (TO b);rw[Tm b];exact⟨this,fun e=>by simp at e⟩
   ·exact⟨g.XW,g.XL,g.steps⟩
 ·split
  ·unfold jK;split <;> exact⟨g.XW,g.XL,g.steps⟩
  ·split
   ·refine⟨g.XW,?_,g.steps⟩;intro x d;simp at d;rcases d with d | rfl
    ·exact g.XL x d
    ·omega
   ·split
    ·refine⟨g.XW,g.XL,?_⟩;intro s a;simp[dO]at a;rcases a with a | rfl
     ·exact g.steps s a
     ·exact⟨by simp,fun _=>f⟩
    ·exact g
theorem Cm(l:0<I.length)(a:I.length<=10000)(t:Xs)(p:Pl)(f:Nat):∀(j:Nat) (c:lB) (N:Nat),zc I c->jm c (N+j)->j<=t.size->N+t.size<=1020000->zc I (ia t p f j c).2:=by
 induction f with
 | zero=>intro j c N g h k d;exact g
 | succ f n =>
  intro j c N g h k d;rw[ia];split
  ·next m =>
   have i:=h.letter (aI t j).toNat { p with X0:=p.X0+j };have b:=g.letter h l a (by omega) (aI t j).toNat { p with X0:=p.X0+j };split
   ·exact n (j+1) _ N b (by rw[<-V5];exact i) (by omega) d
   ·exact b
  ·exact g
theorem Co(j:0<I.length)(d:I.length<=10000)(a:List (Xs×Pl)):∀(c:lB) (N:Nat),zc I c->jm c N->N+kU a<=1020000->zc I (pV a c).2/\jm (pV a c).2 1020000:=by
 induction a with
 | nil=>intro c N g h b;exact⟨g,h.mono (by simp[kU]at b;omega)⟩
 | cons x r k =>
  intro c N g h b;obtain⟨t,p⟩:=x;have i:kU ((t,p) :: r)=t.size+kU r:=by simp[kU]
  rw[i]at b;have e:zc I (l9 t p c).2:=Cm j d t p _ 0 c N g h (Ub _) (by omega);have f:=AC t p h;rw[pV];split
  ·exact k _ (N+t.size) e f (by omega)
  ·exact⟨e,f.mono (by omega)⟩
theorem E4(c:List (Xs×Pl))(i:Nat)(b:Xv)(h:∀n∈b,n<w.length):∀n∈(b7 w zt y5 i c b).2,n<w.length:=by
 induction c generalizing i b with
 | nil=>exact h
 | cons x r e =>
  obtain⟨t,p⟩:=x;rw[b7];split
  ·exact h
  ·split
   ·exact h
   ·next n d =>
    split
    ·exact h
    ·exact e (i+1) (b++[n]) (by intro m a;simp at a;rcases a with a | rfl;exact h m a;exact zP d)
theorem F0(c:jU w)(m:y<w.length)(j:rW w[y]):Ha w (dB w y w[y]).1:=by
 have k:0<w.length:=by omega
 have p:=c.prfs y m;have q:=j.size;have a:(∀s∈(dB w y w[y]).1,G3 w s)/\(dB w y w[y]).1.length<=1100000:=by
  unfold dB;split
  ·unfold kO zK;have e:=CP w y w[y] c.len p;have f:zc w ⟨(b7 w y w[y].XX 1 (w[y].XJ.drop 1) (aP w y)).2,[],[],0,false⟩:=⟨E4 w y w[y].XX _ 1 _ (fun n o=>Di o),by simp,by simp⟩;generalize b7 w y w[y].XX 1 (w[y].XJ.drop 1) (aP w y)=l at *;obtain⟨⟨b,d⟩,i⟩:=l;simp only at e f ⊢;have vg:zc w (Cr d (w[y].XJ.drop b) ⟨i,[],[],0,false⟩).2/\jm (Cr d (w[y].XJ.drop b) ⟨i,[],[],0,false⟩).2 1020000:=by
    unfold Cr;split
    ·exact Co k c.len _ _ 20000 f e (by have:=Eh w[y].XJ b;omega)
    ·exact⟨f,e.mono (by omega)⟩
   generalize Cr d (w[y].XJ.drop b) ⟨i,[],[],0,false⟩=R at *;unfold mY;split
   ·split
    ·split
     ·exact⟨by simp,by simp⟩
     ·exact⟨vg.1.steps,by have:=vg.2.steps;simp only;omega⟩
    ·exact⟨by simp,by simp⟩
   ·exact⟨by simp,by simp⟩
  ·have:=Kn w y w[y].XX k c.len w[y].XJ [] (by simp) 0 (by simp);exact⟨this.1,by have:=this.2;omega⟩
 exact⟨a.2,fun s g=>by have:=(a.1 s g).1;omega,fun s g=>(a.1 s g).2⟩
section
theorem vS(k l c u:Int)(a f:Xs)(b d:Xu)(i e j g:Nat) :
    (Instr.field 158 (agg #[int i64 k,string a,slice b i e,slice d j g,string f,int i64 l,int i64 c,int i64 u]) 1).run prog S=.ok (string a) S:=by kernel_rfl
attribute [local go_sem] vS
def kF(XU:Xs)(L:List Rw)(steps:List kC)(f:pt):Rw :=
  if(f.1==0)=true then
    (match uG steps with
     | some u=>⟨XU,3,0,((steps[u]?).map kC.at_).getD lm⟩
     | none=>if mZ L steps=true then⟨XU,5,0,lm⟩ else⟨XU,4,0,lm⟩)
  else⟨XU,2,f.1,f.2⟩
def dq(l:List St)(n:Nat)(s:St)(L:List Rw):Rw :=
  kF s.XU L (dB l n s).1 (if(uG (dB l n s).1).isNone=true/\((dB l n s).2.1==0)=true then fQ l n s (dB l n s).1 else(dB l n s).2)
theorem fe{x:Rw}(h:a.heap[i]?=some (.cells (nR x).toArray 38)) :
    a.cell? ⟨i,0,none⟩=some (string x.XU)/\a.cell? ⟨i,1,none⟩=some (int i64 x.XE)/\a.cell? ⟨i,2,none⟩=some (int i64 x.why)/\a.cell? ⟨i,3,none⟩=some (string x.at_.XY)/\a.cell? ⟨i,4,none⟩=some (int i64 x.at_.XZ)/\a.cell? ⟨i,5,none⟩=some (int i64 x.at_.X0):=by
  refine⟨?_,?_,?_,?_,?_,?_⟩ <;> (rw[ah h];rfl)
theorem zY(K:ae [] a y6)(b:a.heap.size<=i)(c d e f g j:Value):ae [] a ((((((y6.setCell ⟨i,0,none⟩ c).setCell ⟨i,1,none⟩ d).setCell ⟨i,2,none⟩ e).setCell ⟨i,3,none⟩ f).setCell ⟨i,4,none⟩ g).setCell ⟨i,5,none⟩ j) :=
  (((((K.setCell (TA b) _).setCell (TA b) _).setCell (TA b) _).setCell (TA b) _).setCell (TA b) _).setCell (TA b) _
set_option maxRecDepth 100000
theorem JX(h:jA S N o w s D M)(ok:jU w)(ha:H<w.length)(a0:rW w[H])(az:iG S l w w.length g) :
    Calls prog 115 #[pointer (some ⟨N,o,none⟩),int i64 H,slice (some ⟨l,0,none⟩) w.length w.length] S fun e w' =>
      e=returned (agg (nR (dq w H w[H] M)).toArray)/\ae [] S w':=by
  have ap:=F0 w H ok ha a0;obtain⟨W,hW⟩:∃W,W=S.alloc (.cells #[string ⟨#[]⟩,int i64 0,int i64 0,string ⟨#[]⟩,int i64 0,int i64 0] 38):=⟨_,rfl⟩
  have kW:=fH hW.symm;have BF:W.heap[S.heap.size]?=some (.cells (nR qr).toArray 38):=by rw[hW];exact Ts _ _
  have HW:Xr _:=hW.symm;clear hW;have Y:Xr (dq w H w[H] M=kF w[H].XU M (dB w H w[H]).1 (if(uG (dB w H w[H]).1).isNone=true/\((dB w H w[H]).2.1==0)=true then fQ w H w[H] (dB w H w[H]).1 else(dB w H w[H]).2)):=rfl;have RD:=fun(w':World) (k:ae [] S w')=>Af N o H w s w' (h.XD k).recd ha ok a0;have PL:=fun(hd:Hd) (w':World) (k:ae [] S w') (o':aB w' hd (gq (dB w H w[H]).1))=>LV N o l H w s g hd (dB w H w[H]).1 w' (h.XD k).recd ok ha (az.XD k) o' ap;have al:=ap.len;have av:Xr _:=RD;have ar:Xr _:=PL;clear RD PL ap;generalize dB w H w[H]=PF at *;obtain⟨a,J,G⟩:=PF;simp only at Y av ar al;go_enter func115,ntmps115;go_upto_region 1 with fail
  rw[HW.o];go_upto_region 2 with (go_at_call 98;refine(bF N o H w s _ (by exact(h.XD kW).recd) ha).mono ?_;rintro e i ⟨rfl,k1⟩;unfold fR)
  obtain⟨W2,ac⟩:∃W2,W2=i.alloc (.cells #[string w[H].XU,int i64 0,int i64 0,string ⟨#[]⟩,int i64 0,int i64 0] 38):=⟨_,rfl⟩
  have k2:ae [] W W2:=by rw[ac];exact k1.alloc _
  have BR:W2.heap[i.heap.size]?=some (.cells (nR ⟨w[H].XU,0,0,lm⟩).toArray 38):=by rw[ac];exact Ts _ _
  have b:S.heap.size<i.heap.size:=by have:=k1.size;have:=aj BF;omega
  rw[<-ac];clear ac;have K2:=kW.trans k2;have a1:=k2.get BF (by simp);go_upto_region 3 with (go_at_call 101;refine(av.o _ (by exact K2)).mono ?_;rintro e w3 ⟨hd,rfl,ai,a7,k3⟩;unfold iu)
  obtain⟨W4,T⟩:∃W4,W4=w3.alloc (.cells #[int i64 J,string G.XY,int i64 G.XZ,int i64 G.X0] 165):=⟨_,rfl⟩
  have k4:ae [] W2 W4:=by rw[T];exact k3.alloc _
  have B9:W4.heap[w3.heap.size]?=some (.cells (Da (J,G)) 165):=by rw[T];exact Ts _ _
  have L:aB W4 hd (gq a):=by rw[T];exact ai.XI (fun x hx=>(kr0.alloc _).block x (ai.lt hx) (by simp))
  rw[<-T];clear T;have ba:i.heap.size<w3.heap.size:=by have:=k3.size;have:=aj BR;omega
  have K4:=K2.trans k4;have af:=k4.get BR (by simp);have ad:=k4.get a1 (by simp);have FU:=uY hd a W4 L (by omega);cases hu:uG a with
  | some u =>
    have HU:Xr _:=hu;rw[hu]at FU;simp only[oC]at FU;have aT:u<a.length:=by
      have:=Ur hu;simpa using this
    have a4:(u:Int) ≥ 0:=(by omega);have a5:(u:Int)<a.length:=(by omega);clear hu;have Z:=K4;have O:=B9;have j:=af;have y:=ad;obtain⟨f0,f1,f2,f3⟩:=jP O;obtain⟨m,n,p,q,r,t⟩:=fe j;have yr:=am j;simp only[lm]at m n p q r t;cases U:(J==0)
    · have aS:(J != 0)=true:=by simp[bne,U]
      have Q:Xr (dq w H w[H] M=⟨w[H].XU,2,J,G⟩):=cg (by rw[Y.o,HU.o,U];simp[kF,U]);clear Y;(go_upto_region 4 with (go_at_call 162;refine FU.mono ?_;rintro e wu ⟨rfl,I⟩;rw[I]));(go_upto_region 16 with fail);obtain⟨X,d⟩:∃X,X=((((W4.setCell ⟨i.heap.size,1,none⟩ (int i64 2)).setCell ⟨i.heap.size,2,none⟩ (int i64 J)).setCell ⟨i.heap.size,3,none⟩ (string G.XY)).setCell ⟨i.heap.size,4,none⟩ (int i64 G.XZ)).setCell ⟨i.heap.size,5,none⟩ (int i64 G.X0):=⟨_,rfl⟩
      have P:X.heap[i.heap.size]?=some (.cells (nR ⟨w[H].XU,2,J,G⟩).toArray 38):=by
        rw[d];rw[ab (ab (ab (ab (ab j _ _) _ _) _ _) _ _) _ _];rfl
      have R:ae [] S X:=(by rw[d];exact(((((Z.setCell (TA (UA b)) _).setCell (TA (UA b)) _).setCell (TA (UA b)) _).setCell (TA (UA b)) _).setCell (TA (UA b)) _));have c:X.heap[S.heap.size]?=some (.cells (nR qr).toArray 38):=by
        rw[d];rw[TJ _ _ _ _ (by simp;omega)];rw[TJ _ _ _ _ (by simp;omega)];rw[TJ _ _ _ _ (by simp;omega)];rw[TJ _ _ _ _ (by simp;omega)];rw[TJ _ _ _ _ (by simp;omega)];exact y
      rw[<-d];clear d m n p q r t yr;obtain⟨m,n,p,q,r,t⟩:=fe P;obtain⟨z,A,B,C,E,F⟩:=fe c;have ys:=am c;simp only[qr,lm]at m n p q r t z A B C E F;go_wp2;exact Ty (v:=agg (nR ⟨w[H].XU,2,J,G⟩).toArray) (by simp[results,results115,go_sem,z,A,B,C,E,F,nR]) rfl ⟨by rw[Q.o],zY R (Tp _) _ _ _ _ _ _⟩
    · have aS:(J != 0)=false:=by simp[bne,U]
      obtain⟨gp,ep,ax,ag,-,-,d2,d3,d4⟩:=L.step u aT;have Q:Xr (dq w H w[H] M=⟨w[H].XU,3,0,a[u].at_⟩):=cg (by rw[Y.o,HU.o,U];simp[kF,U,HU.o,aT]);obtain⟨ao,a6⟩:=hd;simp only at ep ax ag;subst ep;clear Y;generalize a[u]=st at *;(go_upto_region 4 with (go_at_call 162;refine FU.mono ?_;rintro e wu ⟨rfl,I⟩;rw[I]));(go_upto_region 16 with fail);obtain⟨X,d⟩:∃X,X=(((W4.setCell ⟨i.heap.size,1,none⟩ (int i64 3)).setCell ⟨i.heap.size,3,none⟩ (string st.at_.XY)).setCell ⟨i.heap.size,4,none⟩ (int i64 st.at_.XZ)).setCell ⟨i.heap.size,5,none⟩ (int i64 st.at_.X0):=⟨_,rfl⟩
      have P:X.heap[i.heap.size]?=some (.cells (nR ⟨w[H].XU,3,0,st.at_⟩).toArray 38):=by
        rw[d];rw[ab (ab (ab (ab j _ _) _ _) _ _) _ _];rfl
      have R:ae [] S X:=(by rw[d];exact((((Z.setCell (TA (UA b)) _).setCell (TA (UA b)) _).setCell (TA (UA b)) _).setCell (TA (UA b)) _));have c:X.heap[S.heap.size]?=some (.cells (nR qr).toArray 38):=by
        rw[d];rw[TJ _ _ _ _ (by simp;omega)];rw[TJ _ _ _ _ (by simp;omega)];rw[TJ _ _ _ _ (by simp;omega)];rw[TJ _ _ _ _ (by simp;omega)];exact y
      rw[<-d];clear d m n p q r t yr;obtain⟨m,n,p,q,r,t⟩:=fe P;obtain⟨z,A,B,C,E,F⟩:=fe c;have ys:=am c;simp only[qr,lm]at m n p q r t z A B C E F;go_wp2;exact Ty (v:=agg (nR ⟨w[H].XU,3,0,st.at_⟩).toArray) (by simp[results,results115,go_sem,z,A,B,C,E,F,nR]) rfl ⟨by rw[Q.o],zY R (Tp _) _ _ _ _ _ _⟩
  | none =>
    have HU:Xr _:=hu;rw[hu]at FU;simp only[oC]at FU;clear hu;cases U:(J==0)
    · have aS:(J != 0)=true:=by simp[bne,U]
      have Q:Xr (dq w H w[H] M=⟨w[H].XU,2,J,G⟩):=cg (by rw[Y.o,HU.o,U];simp[kF,U]);have Z:=K4;have O:=B9;have j:=af;have y:=ad;obtain⟨f0,f1,f2,f3⟩:=jP O;obtain⟨m,n,p,q,r,t⟩:=fe j;have yr:=am j;simp only[lm]at m n p q r t;clear Y;(go_upto_region 4 with (go_at_call 162;refine FU.mono ?_;rintro e wu ⟨rfl,I⟩;rw[I]));(go_upto_region 16 with fail);obtain⟨X,d⟩:∃X,X=((((W4.setCell ⟨i.heap.size,1,none⟩ (int i64 2)).setCell ⟨i.heap.size,2,none⟩ (int i64 J)).setCell ⟨i.heap.size,3,none⟩ (string G.XY)).setCell ⟨i.heap.size,4,none⟩ (int i64 G.XZ)).setCell ⟨i.heap.size,5,none⟩ (int i64 G.X0):=⟨_,rfl⟩
      have P:X.heap[i.heap.size]?=some (.cells (nR ⟨w[H].XU,2,J,G⟩).toArray 38):=by
        rw[d];rw[ab (ab (ab (ab (ab j _ _) _ _) _ _) _ _) _ _];rfl
      have R:ae [] S X:=(by rw[d];exact(((((Z.setCell (TA (UA b)) _).setCell (TA (UA b)) _).setCell (TA (UA b)) _).setCell (TA (UA b)) _).setCell (TA (UA b)) _));have c:X.heap[S.heap.size]?=some (.cells (nR qr).toArray 38):=by
        rw[d];rw[TJ _ _ _ _ (by simp;omega)];rw[TJ _ _ _ _ (by simp;omega)];rw[TJ _ _ _ _ (by simp;omega)];rw[TJ _ _ _ _ (by simp;omega)];rw[TJ _ _ _ _ (by simp;omega)];exact y
      rw[<-d];clear d m n p q r t yr;obtain⟨m,n,p,q,r,t⟩:=fe P;obtain⟨z,A,B,C,E,F⟩:=fe c;have ys:=am c;simp only[qr,lm]at m n p q r t z A B C E F;go_wp2;exact Ty (v:=agg (nR ⟨w[H].XU,2,J,G⟩).toArray) (by simp[results,results115,go_sem,z,A,B,C,E,F,nR]) rfl ⟨by rw[Q.o],zY R (Tp _) _ _ _ _ _ _⟩
    · have K:Xr (dq w H w[H] M=kF w[H].XU M a (fQ w H w[H] a)):=by show _=_;rw[Y.o,HU.o,U];simp
      obtain⟨f0,f1,f2,f3⟩:=jP B9;clear Y;generalize fQ w H w[H] a=f at *;(go_upto_region 4 with (go_at_call 162;refine FU.mono ?_;rintro e wu ⟨rfl,I⟩;rw[I]));(go_upto_region 7 with (go_at_call 163;refine(ar.o hd _ (by exact K4) (by exact L)).mono ?_;rintro e w5 ⟨rfl,k5⟩;unfold iu;obtain⟨t0,t1,t2,t3⟩:=jP (k5.get B9 (by simp));have yt:=am (k5.get B9 (by simp))));obtain⟨V,hV⟩:∃V,V=(((w5.setCell ⟨w3.heap.size,0,none⟩ (int i64 f.1)).setCell ⟨w3.heap.size,1,none⟩ (string f.2.XY)).setCell ⟨w3.heap.size,2,none⟩ (int i64 f.2.XZ)).setCell ⟨w3.heap.size,3,none⟩ (int i64 f.2.X0):=⟨_,rfl⟩
      have O:V.heap[w3.heap.size]?=some (.cells (Da f) 165):=by
        rw[hV,ab (ab (ab (ab (k5.get B9 (by simp)) _ _) _ _) _ _)];rfl
      have k9:ae [w3.heap.size] w5 V:=(by rw[hV];exact jQ _ _ _ _);have Z:ae [] S V:=(by rw[hV];exact lK (K4.trans k5) (by omega) _ _ _ _);have j:=k9.get (k5.get af (by simp)) (by simp;omega);have y:=k9.get (k5.get ad (by simp)) (by simp;omega);have a2:aB V hd (gq a):=(L.XI (w':=w5) (fun x hx=>k5.block x (L.lt hx) (by simp))).XI (fun x hx=>k9.block x (Tv (L.lt hx) k5.size) (by simp;rintro rfl;have:=ai.lt hx;omega));rw[<-hV];clear hV t0 t1 t2 t3 yt;clear f0 f1 f2 f3;obtain⟨f0,f1,f2,f3⟩:=jP O;obtain⟨m,n,p,q,r,t⟩:=fe j;have yr:=am j;simp only[lm]at m n p q r t;cases hf:(f.1==0)
      · have a3:(f.1 != 0)=true:=by simp[bne,hf]
        have Q:Xr (dq w H w[H] M=⟨w[H].XU,2,f.1,f.2⟩):=cg (by rw[K.o];simp[kF,hf]);clear K;(go_upto_region 16 with fail);obtain⟨X,d⟩:∃X,X=((((V.setCell ⟨i.heap.size,1,none⟩ (int i64 2)).setCell ⟨i.heap.size,2,none⟩ (int i64 f.1)).setCell ⟨i.heap.size,3,none⟩ (string f.2.XY)).setCell ⟨i.heap.size,4,none⟩ (int i64 f.2.XZ)).setCell ⟨i.heap.size,5,none⟩ (int i64 f.2.X0):=⟨_,rfl⟩
        have P:X.heap[i.heap.size]?=some (.cells (nR ⟨w[H].XU,2,f.1,f.2⟩).toArray 38):=by
          rw[d];rw[ab (ab (ab (ab (ab j _ _) _ _) _ _) _ _) _ _];rfl
        have R:ae [] S X:=(by rw[d];exact(((((Z.setCell (TA (UA b)) _).setCell (TA (UA b)) _).setCell (TA (UA b)) _).setCell (TA (UA b)) _).setCell (TA (UA b)) _));have c:X.heap[S.heap.size]?=some (.cells (nR qr).toArray 38):=by
          rw[d];rw[TJ _ _ _ _ (by simp;omega)];rw[TJ _ _ _ _ (by simp;omega)];rw[TJ _ _ _ _ (by simp;omega)];rw[TJ _ _ _ _ (by simp;omega)];rw[TJ _ _ _ _ (by simp;omega)];exact y
        rw[<-d];clear d m n p q r t yr;obtain⟨m,n,p,q,r,t⟩:=fe P;obtain⟨z,A,B,C,E,F⟩:=fe c;have ys:=am c;simp only[qr,lm]at m n p q r t z A B C E F;go_wp2;exact Ty (v:=agg (nR ⟨w[H].XU,2,f.1,f.2⟩).toArray) (by simp[results,results115,go_sem,z,A,B,C,E,F,nR]) rfl ⟨by rw[Q.o],zY R (Tp _) _ _ _ _ _ _⟩
      · have a3:(f.1 != 0)=false:=by simp[bne,hf]
        have RE:=NU N o w s D M hd a V (h.XD Z) a2 (by omega);cases hr:mZ M a
        · have Q:Xr (dq w H w[H] M=⟨w[H].XU,4,0,lm⟩):=by show _=_;rw[K.o];simp[kF,hf,HU.o,hr]
          rw[hr]at RE;clear K;(go_upto_region 6 with (go_at_call 164;refine RE.mono ?_;rintro e wv ⟨rfl,an⟩;rw[an]));(go_upto_region 16 with fail);obtain⟨X,d⟩:∃X,X=V.setCell ⟨i.heap.size,1,none⟩ (int i64 4):=⟨_,rfl⟩
          have P:X.heap[i.heap.size]?=some (.cells (nR ⟨w[H].XU,4,0,lm⟩).toArray 38):=by
            rw[d];rw[ab j _ _];rfl
          have R:ae [] S X:=(by rw[d];exact(Z.setCell (TA (UA b)) _));have c:X.heap[S.heap.size]?=some (.cells (nR qr).toArray 38):=by
            rw[d];rw[TJ _ _ _ _ (by simp;omega)];exact y
          rw[<-d];clear d m n p q r t yr;obtain⟨m,n,p,q,r,t⟩:=fe P;obtain⟨z,A,B,C,E,F⟩:=fe c;have ys:=am c;simp only[qr,lm]at m n p q r t z A B C E F;go_wp2;exact Ty (v:=agg (nR ⟨w[H].XU,4,0,lm⟩).toArray) (by simp[results,results115,go_sem,z,A,B,C,E,F,nR,lm]) rfl ⟨by rw[Q.o],zY R (Tp _) _ _ _ _ _ _⟩
        · have Q:Xr (dq w H w[H] M=⟨w[H].XU,5,0,lm⟩):=by show _=_;rw[K.o];simp[kF,hf,HU.o,hr]
          rw[hr]at RE;clear K;(go_upto_region 15 with (go_at_call 164;refine RE.mono ?_;rintro e wv ⟨rfl,an⟩;rw[an]));(go_upto_region 16 with fail);obtain⟨X,d⟩:∃X,X=V.setCell ⟨i.heap.size,1,none⟩ (int i64 5):=⟨_,rfl⟩
          have P:X.heap[i.heap.size]?=some (.cells (nR ⟨w[H].XU,5,0,lm⟩).toArray 38):=by
            rw[d];rw[ab j _ _];rfl
          have R:ae [] S X:=(by rw[d];exact(Z.setCell (TA (UA b)) _));have c:X.heap[S.heap.size]?=some (.cells (nR qr).toArray 38):=by
            rw[d];rw[TJ _ _ _ _ (by simp;omega)];exact y
          rw[<-d];clear d m n p q r t yr;obtain⟨m,n,p,q,r,t⟩:=fe P;obtain⟨z,A,B,C,E,F⟩:=fe c;have ys:=am c;simp only[qr,lm]at m n p q r t z A B C E F;go_wp2;exact Ty (v:=agg (nR ⟨w[H].XU,5,0,lm⟩).toArray) (by simp[results,results115,go_sem,z,A,B,C,E,F,nR,lm]) rfl ⟨by rw[Q.o],zY R (Tp _) _ _ _ _ _ _⟩
end
end Go.Proofs.YtnbhnocdhbcbcaaGreat
