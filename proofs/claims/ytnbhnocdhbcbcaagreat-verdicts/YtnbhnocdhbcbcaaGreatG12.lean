import Derived.Test.YtnbhnocdhbcbcaaGreatG11
namespace Go.Proofs.YtnbhnocdhbcbcaaGreat
open Go.RowKit Tryz
open Value IntKind Ending
set_option maxHeartbeats 0
variable{I y7:World}{N z6 g:Nat}{zt:Nat->Hd}{L:List St}{m:List Rw}(y2 z7:World)(z4 o d a l:Nat)(b:kK)(w:List St)(T z5:Nat->Hd)(x:List ByteArray)(y:List Bool)(y8:Hd)(zb:Nat)(D:List Rw)(i:Hd)(f n:List Ex)(M:Nat->Hd)(y5:Pl)(y9:List ByteArray)(H:List kK)(k:World)(y6:List (List ByteArray)×List (List ByteArray))(S:Nat)
def gi(l:List St)(vs:List ByteArray)(ms:List Bool)(sh th:List (List ByteArray))(s:kK):(Int×List ByteArray)×List (List ByteArray) :=
 if(s.kind==3)=true then(if s.Wf<sh.length then((0,sh.getD s.Wf []),th) else((5,[]),th))
 else if ni l s.Wf=true then(gj l s.Wf vs ms th,th.take (th.length-(aN l s.Wf).length))
 else((0,(l.getD s.Wf zI).We),th)
set_option maxRecDepth 100000
theorem Nf(E:DZ y2 o d a l w T z5 x y y8 i)(P:mE y2 z7 z4 o d a w.length l f n M)(hn:(b.kind==3)=false->b.Wf<w.length)(a7:b.Wf<=2000000)(af:n.length<=2000000) :
  Calls prog 240 #[pointer (some ⟨z4,0,none⟩),agg #[int i64 b.kind,int i64 b.Wf,string b.at_.file,int i64 b.at_.line,int i64 b.at_.col]] z7 fun e D=>∃(U:List Ex) (u:Ex),
   e=returned (tuple #[slice u.hd.ao u.xs.length u.hd.cap,int i64 (gi w x y (f.map Ex.xs) (n.map Ex.xs) b).1.1])/\u.xs=(gi w x y (f.map Ex.xs) (n.map Ex.xs) b).1.2/\mE y2 D z4 o d a w.length l f U M/\rG D z4 M u.hd u.xs /\
   (((gi w x y (f.map Ex.xs) (n.map Ex.xs) b).1.1==0)=true->U.map Ex.xs=(gi w x y (f.map Ex.xs) (n.map Ex.xs) b).2)/\U.length<=n.length:=by
 obtain⟨W,hW⟩:∃W,W=z7.alloc (.cells #[int i64 b.kind,int i64 b.Wf,string b.at_.file,int i64 b.at_.line,int i64 b.at_.col] 174):=⟨_,rfl⟩
 have kW:=fN hW.symm;have B:=fY hW.symm;have HW:Hid _:=hW.symm;obtain⟨u0,u1,-⟩:=nR B;have s:=P.Wj kW;have EW:=E.Wj s.kept;obtain⟨p0,p1,p2⟩:=s.ply.ctx.cells;obtain⟨p3,p4⟩:=s.ply.cells;have a4:=s.ply.bag.lt;have ba:=ae B;clear hW;cases hk:(b.kind==3)
 ·have p:=hn hk;have J:Hid (gi w x y (f.map Ex.xs) (n.map Ex.xs) b=if ni w b.Wf=true then(gj w b.Wf x y (n.map Ex.xs),(n.map Ex.xs).take (n.length-(aN w b.Wf).length)) else((0,w[b.Wf].We),n.map Ex.xs)):=by
   show _=_;unfold gi;rw[hk,Sn,Sn,At w _ p];rfl
  have Z:Hid (∀D,aa [] W D->D.cell? ⟨z4,0,none⟩=some (pointer (some ⟨o,d,none⟩))/\D.cell? ⟨z7.heap.size,1,none⟩=some (int i64 b.Wf)):=by
   intro D k;refine⟨(s.Wj k).ply.ctx.cells.1,?_⟩;rw[aj (k.get B (by simp))];rfl
  have ac:Hid _:=fun(j:World) (G:aa [] W j)=>bG o d b.Wf w T j (EW.Wj G).recd p;have HZ:Hid (∀j,aa [] (W.alloc (.cells #[int i64 0,string ⟨#[]⟩,slice none 0 0,slice none 0 0,string ⟨#[]⟩,int i64 0,int i64 0,int i64 0] 158)).drew j->j.cell? ⟨W.heap.size,0,none⟩=some (int i64 0)/\j.cell? ⟨W.heap.size,1,none⟩=some (string ⟨#[]⟩)/\j.cell? ⟨W.heap.size,2,none⟩=some (slice none 0 0)/\j.cell? ⟨W.heap.size,3,none⟩=some (slice none 0 0)/\j.cell? ⟨W.heap.size,4,none⟩=some (string ⟨#[]⟩)/\j.cell? ⟨W.heap.size,5,none⟩=some (int i64 0)/\j.cell? ⟨W.heap.size,6,none⟩=some (int i64 0)/\j.cell? ⟨W.heap.size,7,none⟩=some (int i64 0)/\∀ax,j.frozen? ⟨W.heap.size,ax,none⟩=false):=by
   intro j k;have q:=k.get (show(W.alloc (.cells #[int i64 0,string ⟨#[]⟩,slice none 0 0,slice none 0 0,string ⟨#[]⟩,int i64 0,int i64 0,int i64 0] 158)).drew.heap[W.heap.size]?=_ from R2 _ _) (by simp);refine⟨?_,?_,?_,?_,?_,?_,?_,?_,fun ax=>am q ax⟩ <;> (rw[aj q];rfl)
  have a0:W.heap.size≠z4:=by omega
  have a1:z4≠W.heap.size:=by omega
  have a2:W.heap.size≠z7.heap.size:=by omega
  have a3:z7.heap.size≠W.heap.size:=by omega
  clear p1 p2 p3 p4;go_enter func240,ntmps240;go_upto_region 1 with fail
  rw[HW.out];go_upto_region 5 with fail
  go_region_held3 (fun D=>D.cell? ⟨z4,0,none⟩=some (pointer (some ⟨o,d,none⟩))/\D.cell? ⟨z7.heap.size,1,none⟩=some (int i64 b.Wf)) (go_keep) (first | (go_at_call 98;refine(ac.out _ (by exact(aa.refl [] W).drew)).mono ?_;rintro e j ⟨rfl,G⟩;obtain⟨x0,x1⟩:=Z.out j ((aa.refl [] _).drew.trans G);unfold fL) | (go_at_call 98;refine(ac.out _ (by exact((aa.refl [] W).alloc _).drew)).mono ?_;rintro e j ⟨rfl,G⟩;obtain⟨x0,x1⟩:=Z.out j (((aa.refl [] W).alloc _).drew.trans G);obtain⟨q0,q1,q2,q3,q4,q5,q6,q7,qf⟩:=HZ.out j G;unfold fL))
  ·obtain⟨X,F⟩:∃X,X=j.alloc (.cells #[int i64 w[b.Wf].kind,string w[b.Wf].label,slice (T (10+2*b.Wf)).ao w[b.Wf].We.length (T (10+2*b.Wf)).cap,slice (T (11+2*b.Wf)).ao w[b.Wf].Wp.length (T (11+2*b.Wf)).cap,string w[b.Wf].fin.file,int i64 w[b.Wf].fin.line,int i64 w[b.Wf].fin.col,int i64 w[b.Wf].til] 158):=⟨_,rfl⟩
   have H:aa [] W X:=(by rw[F];exact((aa.refl [] _).drew.trans G).alloc _);have K:=fY F.symm;rw[<-F];clear F x0 x1 u0 u1 p0;obtain⟨m0,m1,m2,m3,m4,m5,m6,m7⟩:=vI K;have PX:=s.Wj H;have ap:=ae K;obtain⟨x0,x1⟩:=Z.out X H;have g:Hid _:=Az w b.Wf p;cases r:pK w[b.Wf].kind
   ·have c:Hid (gi w x y (f.map Ex.xs) (n.map Ex.xs) b=((0,w[b.Wf].We),n.map Ex.xs)):=(by show _=_;rw[J.out,g.out,r];rfl);clear J g;(go_upto_region 8 with (go_at_call 161;refine(dZ w[b.Wf].kind _ _ _ _ _ _ _ _).mono ?_;rintro e Y ⟨rfl,C⟩;have L:=C.get K (by simp)));obtain⟨-,-,ar,-⟩:=vI L;have I:=E.recd.Wv.syms b.Wf w[b.Wf] (RQ p);have kk:=(H.trans C);have t:=s.Wj kk;clear m0 m1 m2 m3 m4 m5 m6 m7;go_wp2;exact Sa (v:=tuple #[slice (T (10+2*b.Wf)).ao w[b.Wf].We.length (T (10+2*b.Wf)).cap,int i64 0]) (by simp[results,results240,go_sem]) rfl
     ⟨n,⟨T (10+2*b.Wf),w[b.Wf].We⟩,by rw[c.out],by rw[c.out],t,⟨I.view.Wj t.kept,fun az S=>⟨R6 (I.lt S) t.kept.size,by have:=I.lt S;have:=P.hb;omega,fun i=>by have:=P.hin az i;have:=I.lt S;omega⟩⟩,fun _=>by rw[c.out],RV _⟩
   ·have c:Hid (gi w x y (f.map Ex.xs) (n.map Ex.xs) b=(gj w b.Wf x y (n.map Ex.xs),(n.map Ex.xs).take (n.length-(aN w b.Wf).length))):=(by show _=_;rw[J.out,g.out,r];rfl);have O:ni w b.Wf=true:=(by rw[g.out,r]);clear J g;(go_upto_region 7 with (go_at_call 161;refine(dZ w[b.Wf].kind _ _ _ _ _ _ _ _).mono ?_;rintro e Y ⟨rfl,C⟩));obtain⟨y0,y1⟩:=Z.out Y (H.trans C);have t:=PX.Wj C;clear m0 m1 m2 m3 m4 m5 m6 m7;go_wp2_with fail;refine(yS y2 Y z4 o d a l b.Wf w T z5 x y y8 i f n M E t p O af).mono ?_;rintro e w6 ⟨V,m,rfl,A,P6,F6,R,Q⟩;have N:Hid _:=A;clear A;go_wp2;exact Sa (v:=tuple #[slice m.hd.ao m.xs.length m.hd.cap,int i64 (gj w b.Wf x y (n.map Ex.xs)).1]) (by simp[results,results240,go_sem]) rfl
     ⟨V,m,by rw[c.out],by rw[c.out];exact N.out,P6,F6,fun hh=>by rw[c.out]at hh ⊢;rw[R hh,Vq],Q⟩
  ·obtain⟨X,F⟩:∃X,X=(((((((j.setCell ⟨W.heap.size,0,none⟩ (int i64 w[b.Wf].kind)).setCell ⟨W.heap.size,1,none⟩ (string w[b.Wf].label)).setCell ⟨W.heap.size,2,none⟩ (slice (T (10+2*b.Wf)).ao w[b.Wf].We.length (T (10+2*b.Wf)).cap)).setCell ⟨W.heap.size,3,none⟩ (slice (T (11+2*b.Wf)).ao w[b.Wf].Wp.length (T (11+2*b.Wf)).cap)).setCell ⟨W.heap.size,4,none⟩ (string w[b.Wf].fin.file)).setCell ⟨W.heap.size,5,none⟩ (int i64 w[b.Wf].fin.line)).setCell ⟨W.heap.size,6,none⟩ (int i64 w[b.Wf].fin.col)).setCell ⟨W.heap.size,7,none⟩ (int i64 w[b.Wf].til):=⟨_,rfl⟩
   have ag:=(((aa.refl [] W).alloc _).drew.trans G);have ai:=G.get (show(W.alloc (.cells #[int i64 0,string ⟨#[]⟩,slice none 0 0,slice none 0 0,string ⟨#[]⟩,int i64 0,int i64 0,int i64 0] 158)).drew.heap[W.heap.size]?=_ from R2 _ _) (by simp);have H:aa [] W X:=(by rw[F];exact(((((((ag.setCell (RZ (RV _)) _).setCell (RZ (RV _)) _).setCell (RZ (RV _)) _).setCell (RZ (RV _)) _).setCell (RZ (RV _)) _).setCell (RZ (RV _)) _).setCell (RZ (RV _)) _).setCell (RZ (RV _)) _);have K:X.heap[W.heap.size]?=some (.cells #[int i64 w[b.Wf].kind,string w[b.Wf].label,slice (T (10+2*b.Wf)).ao w[b.Wf].We.length (T (10+2*b.Wf)).cap,slice (T (11+2*b.Wf)).ao w[b.Wf].Wp.length (T (11+2*b.Wf)).cap,string w[b.Wf].fin.file,int i64 w[b.Wf].fin.line,int i64 w[b.Wf].fin.col,int i64 w[b.Wf].til] 158):=by
    rw[F,ah (ah (ah (ah (ah (ah (ah (ah ai _ _) _ _) _ _) _ _) _ _) _ _) _ _)];rfl
   rw[<-F];clear F x0 x1 u0 u1 p0 q0 q1 q2 q3 q4 q5 q6 q7 qf ag ai;obtain⟨m0,m1,m2,m3,m4,m5,m6,m7⟩:=vI K;have PX:=s.Wj H;have ap:=ae K;obtain⟨x0,x1⟩:=Z.out X H;have g:Hid _:=Az w b.Wf p;cases r:pK w[b.Wf].kind
   ·have c:Hid (gi w x y (f.map Ex.xs) (n.map Ex.xs) b=((0,w[b.Wf].We),n.map Ex.xs)):=(by show _=_;rw[J.out,g.out,r];rfl);clear J g;(go_upto_region 8 with (go_at_call 161;refine(dZ w[b.Wf].kind _ _ _ _ _ _ _ _).mono ?_;rintro e Y ⟨rfl,C⟩;have L:=C.get K (by simp)));obtain⟨-,-,ar,-⟩:=vI L;have I:=E.recd.Wv.syms b.Wf w[b.Wf] (RQ p);have kk:=(H.trans C);have t:=s.Wj kk;clear m0 m1 m2 m3 m4 m5 m6 m7;go_wp2;exact Sa (v:=tuple #[slice (T (10+2*b.Wf)).ao w[b.Wf].We.length (T (10+2*b.Wf)).cap,int i64 0]) (by simp[results,results240,go_sem]) rfl
     ⟨n,⟨T (10+2*b.Wf),w[b.Wf].We⟩,by rw[c.out],by rw[c.out],t,⟨I.view.Wj t.kept,fun az S=>⟨R6 (I.lt S) t.kept.size,by have:=I.lt S;have:=P.hb;omega,fun i=>by have:=P.hin az i;have:=I.lt S;omega⟩⟩,fun _=>by rw[c.out],RV _⟩
   ·have c:Hid (gi w x y (f.map Ex.xs) (n.map Ex.xs) b=(gj w b.Wf x y (n.map Ex.xs),(n.map Ex.xs).take (n.length-(aN w b.Wf).length))):=(by show _=_;rw[J.out,g.out,r];rfl);have O:ni w b.Wf=true:=(by rw[g.out,r]);clear J g;(go_upto_region 7 with (go_at_call 161;refine(dZ w[b.Wf].kind _ _ _ _ _ _ _ _).mono ?_;rintro e Y ⟨rfl,C⟩));obtain⟨y0,y1⟩:=Z.out Y (H.trans C);have t:=PX.Wj C;clear m0 m1 m2 m3 m4 m5 m6 m7;go_wp2_with fail;refine(yS y2 Y z4 o d a l b.Wf w T z5 x y y8 i f n M E t p O af).mono ?_;rintro e w6 ⟨V,m,rfl,A,P6,F6,R,Q⟩;have N:Hid _:=A;clear A;go_wp2;exact Sa (v:=tuple #[slice m.hd.ao m.xs.length m.hd.cap,int i64 (gj w b.Wf x y (n.map Ex.xs)).1]) (by simp[results,results240,go_sem]) rfl
     ⟨V,m,by rw[c.out],by rw[c.out];exact N.out,P6,F6,fun hh=>by rw[c.out]at hh ⊢;rw[R hh,Vq],Q⟩
 ·have a6:decide ((b.Wf:Int)<0)=false:=by simp
  by_cases z:b.Wf<f.length
  ·have c:Hid (gi w x y (f.map Ex.xs) (n.map Ex.xs) b=((0,f[b.Wf].xs),n.map Ex.xs)):=by
    show _=_;unfold gi;rw[hk,RY rfl,Sn,RY z,RT];simp[z]
   have an:decide ((b.Wf:Int) ≥ f.length)=false:=(by simp;omega);have aT:(b.Wf:Int)<f.length:=(by omega);have oS:aC W (M 0) (gQ f):=s.ply.bag.own 0;rcases oS.Wu with ⟨_,h0,_⟩ | ⟨gs,aS,es,-,al,-⟩
   ·have:f.length=0:=h0;omega
   have cs:=oS.cell es b.Wf (wN f[b.Wf]) (tn f b.Wf z);have a5:f.length<=(M 0).cap:=al;have ad:=(s.ply.shs f[b.Wf] (Sj z)).1;rw[es]at p3;unfold wN at cs;generalize f[b.Wf]=u at *;clear p0 p1 p2 p4 oS es;go_enter func240,ntmps240;(go_upto_region 1 with fail);rw[HW.out];(go_upto_region 2 with fail);go_quiet (fail);(go_upto_region 4 with fail);go_quiet (fail);go_wp2;exact Sa (v:=tuple #[slice u.hd.ao u.xs.length u.hd.cap,int i64 0]) (by simp[results,results240,go_sem]) rfl
    ⟨n,u,by rw[c.out],by rw[c.out],s.Wj (((aa.refl [] _).drewN _).drewN _),ad.Wj (((aa.refl [] _).drewN _).drewN _),fun _=>by rw[c.out],RV _⟩
  ·have c:Hid (gi w x y (f.map Ex.xs) (n.map Ex.xs) b=((5,[]),n.map Ex.xs)):=by
    show _=_;unfold gi;rw[hk,RY rfl,Sn,RU z]
   have an:decide ((b.Wf:Int) ≥ f.length)=true:=(by simp;omega);clear p0 p1 p2 p4;go_enter func240,ntmps240;(go_upto_region 1 with fail);rw[HW.out];(go_upto_region 2 with fail);go_quiet (fail);go_wp2;exact Sa (v:=tuple #[slice none 0 0,int i64 5]) (by simp[results,results240,go_sem]) rfl
    ⟨n,⟨⟨none,0⟩,[]⟩,by rw[c.out];rfl,by rw[c.out],s.Wj ((aa.refl [] _).drewN _),tp _ _ _,by rw[c.out];simp,RV _⟩
def j6(l:List St)(vs:List ByteArray)(ms:List Bool)(S:List (List ByteArray)×List (List ByteArray))(s:kK):Int×List (List ByteArray)×List (List ByteArray) :=
 if((gi l vs ms S.1 S.2 s).1.1==0)=true then
  (if(gi l vs ms S.1 S.2 s).1.2.length<=32 then(0,S.1++[(gi l vs ms S.1 S.2 s).1.2],(gi l vs ms S.1 S.2 s).2++[(gi l vs ms S.1 S.2 s).1.2]) else(10,S))
 else((gi l vs ms S.1 S.2 s).1.1,S)
theorem mE.turned{k:World}{i n j:Nat}{p q a b:List Ex}{d:Nat->Hd}(h:mE I y7 N z6 g i n j p q zt)(t:aB N y7 zt k d)(f:bi k N 307 (iw z6 g i n j a b d) (pE a b) d)(l:∀e∈a,rG y7 N zt e.hd e.xs/\e.xs.length<=32)(m:∀e∈b,rG y7 N zt e.hd e.xs/\e.xs.length<=32):mE I k N z6 g i n j a b d:=by
 refine⟨⟨f,fun e c=>⟨(l e c).1.turned t,(l e c).2⟩,fun e c=>⟨(m e c).1.turned t,(m e c).2⟩⟩,h.kept.ofP t.1 ?_,h.hb,fun x o=>?_⟩
 ·rintro x (e | e)
  ·have:=h.hb;omega
  ·exact h.hin x e
 ·rcases t.2 x o with e | e
  ·exact h.hin x e
  ·exact Sc h.kept.size e
theorem MH(E:DZ y2 o d a l w T z5 x y y8 i)(P:mE y2 z7 z4 o d a w.length l f n M)(hn:(b.kind==3)=false->b.Wf<w.length)(ax:b.Wf<=2000000)(az:n.length<=2000000)(a2:f.length<=2000000) :
  Calls prog 211 #[pointer (some ⟨z4,0,none⟩),agg #[int i64 b.kind,int i64 b.Wf,string b.at_.file,int i64 b.at_.line,int i64 b.at_.col]] z7 fun e w'=>∃(N O:List Ex) (H':Nat->Hd),
   e=returned (int i64 (j6 w x y (f.map Ex.xs,n.map Ex.xs) b).1)/\mE y2 w' z4 o d a w.length l N O H' /\
   (((j6 w x y (f.map Ex.xs,n.map Ex.xs) b).1==0)=true->(N.map Ex.xs,O.map Ex.xs)=(j6 w x y (f.map Ex.xs,n.map Ex.xs) b).2)/\O.length<=n.length+1/\N.length<=f.length+1:=by
 obtain⟨i1,V,af,ag,ai⟩:=Sr Mg;obtain⟨W,hW⟩:∃W,W=z7.alloc (.cells #[int i64 b.kind,int i64 b.Wf,string b.at_.file,int i64 b.at_.line,int i64 b.at_.col] 174):=⟨_,rfl⟩
 have kW:=fN hW.symm;have B:=fY hW.symm;have HW:Hid _:=hW.symm;obtain⟨u0,u1,u2,u3,u4⟩:=nR B;have PW:=P.Wj kW;have U:=Nf y2 W z4 o d a l b w T z5 x y y8 i f n M E PW hn ax az;have S:Hid (∀q,gi w x y (f.map Ex.xs) (n.map Ex.xs) b=q->j6 w x y (f.map Ex.xs,n.map Ex.xs) b=if(q.1.1==0)=true then(if q.1.2.length<=32 then(0,f.map Ex.xs++[q.1.2],q.2++[q.1.2]) else(10,f.map Ex.xs,n.map Ex.xs)) else(q.1.1,f.map Ex.xs,n.map Ex.xs)):=by
  intro q A;subst A;rfl
 have t:Hid _:=S.out _ rfl;generalize gi w x y (f.map Ex.xs) (n.map Ex.xs) b=Q at *;obtain⟨⟨q,xs⟩,t2⟩:=Q;simp only at U t;clear hW S B;go_enter func211,ntmps211;go_upto_region 1 with fail
 rw[HW.out];go_wp2_with fail;refine U.mono ?_;rintro e w2 ⟨g,c,rfl,aS,I,F2,Y,a1⟩;subst aS;cases A:(q==0)
 ·have ap:(q != 0)=true:=by simp[bne,A]
  have C:Hid (j6 w x y (f.map Ex.xs,n.map Ex.xs) b=(q,f.map Ex.xs,n.map Ex.xs)):=by show _=_;rw[t.out,A];rfl
  clear t U u0 u1 u2 u3 u4;go_wp2;go_ret;exact⟨f,g,M,au (by rw[C.out]),I,fun hh=>by rw[C.out]at hh;exact absurd (A.symm.trans hh) (by simp),by omega,by omega⟩
 ·have ap:(q != 0)=false:=by simp[bne,A]
  by_cases z:c.xs.length<=32
  ·have an:¬((c.xs.length:Int) > 32):=(by omega);have C:Hid (j6 w x y (f.map Ex.xs,n.map Ex.xs) b=(0,f.map Ex.xs++[c.xs],t2++[c.xs])):=(by show _=_;rw[t.out,A,RY rfl,RY z]);have al:Hid _:=Y A;clear t U u0 u1 u2 u3 u4 Y;(go_upto_region 6 with fail);have D2:=I.ply.bag;have p3:=I.ply.cells.1;have y3:=D2.free;have aT:=D2.lt;have K:=D2.Wj ((aa.refl [] w2).alloc (.cells #[slice c.hd.ao c.xs.length c.hd.cap] 61));have ar:Hid (∀j,j≠0->pE (f++[c]) g j=pE f g j):=by
    intro j s
    match j,s with
    | 0,s=>exact absurd rfl s
    | 1,_=>rfl
    | m+2,_=>rfl
   have Z:Hid (∀j,j≠1->pE (f++[c]) (g++[c]) j=pE (f++[c]) g j):=by
    intro j s
    match j,s with
    | 0,_=>rfl
    | 1,s=>exact absurd rfl s
    | m+2,_=>rfl
   go_wp2_with (at_builtin;refine aO _ rfl (.tmp 23) (.tmp 25) 218 rfl i1 (slice none 0 0) 24 (M 0) (gQ f) underlying218 V af ag ai rfl So rfl (by exact K.own 0) ⟨_,0,none⟩ 1 1 [slice c.hd.ao c.xs.length c.hd.cap] rfl rfl ?e1 ?e2 So ?e3 ?e4 ?_)
   case e1=>intro j u s;match j,s with | 0,s=>simp at s;subst s;simp[Addr.add]
   case e2=>intro u hu;simp at hu;subst hu;rfl
   case e3=>simp only[gQ];unfold maxLen;omega
   case e4=>simp only[gQ];omega
   intro J k w4 ac F p;obtain⟨k4,f4,H⟩:=K.app (cs':=iw o d a w.length l (f++[c]) g (ip M 0 ⟨some ⟨J,0,none⟩,k⟩)) (rows':=pE (f++[c]) g) 3 0 J k ((gQ f).n+1) _ ac (uK f c) F (by simpa using p) ar.out (slice (M 0).ao f.length (M 0).cap) rfl (by simp[iw,ip,gQ]);clear ac F p K p3 y3;(go_upto_region 7 with fail);generalize hX:w4.setCell ⟨z4,3,none⟩ (slice (some ⟨J,0,none⟩) ((gQ f).n+1) k)=X at H ⊢;have DX:=H.out.1;have TX:Hid _:=H.out.2.first ((aa.refl [] _).alloc _);have p4:=DX.cell 4;simp only[iw,List.getElem?_cons_succ,List.getElem?_cons_zero]at p4;have y4:=DX.free;have a0:=DX.lt;have L:=DX.Wj ((aa.refl [] X).alloc (.cells #[slice c.hd.ao c.xs.length c.hd.cap] 61));clear hX k4 f4;go_wp2_with (at_builtin;refine aO _ rfl (.tmp 33) (.tmp 35) 218 rfl i1 (slice none 0 0) 24 (ip M 0 ⟨some ⟨J,0,none⟩,k⟩ 1) (gQ g) underlying218 V af ag ai rfl So rfl (by exact L.own 1) ⟨_,0,none⟩ 1 1 [slice c.hd.ao c.xs.length c.hd.cap] rfl rfl ?e1 ?e2 So ?e3 ?e4 ?_)
   case e1=>intro j u s;match j,s with | 0,s=>simp at s;subst s;simp[Addr.add]
   case e2=>intro u hu;simp at hu;subst hu;rfl
   case e3=>simp only[gQ];unfold maxLen;omega
   case e4=>simp only[gQ];omega
   intro g6 D w6 ad G r;obtain⟨k6,f6,R⟩:=L.app (cs':=iw o d a w.length l (f++[c]) (g++[c]) (ip (ip M 0 ⟨some ⟨J,0,none⟩,k⟩) 1 ⟨some ⟨g6,0,none⟩,D⟩)) (rows':=pE (f++[c]) (g++[c])) 4 1 g6 D ((gQ g).n+1) _ ad (uK g c) G (by simpa using r) Z.out (slice (ip M 0 ⟨some ⟨J,0,none⟩,k⟩ 1).ao g.length (ip M 0 ⟨some ⟨J,0,none⟩,k⟩ 1).cap) rfl (by simp[iw,ip,gQ]);have T6:Hid _:=aB.trans TX.out (R.out.2.first ((aa.refl [] _).alloc _));clear ad G r L p4 y4;go_wp2;go_ret;refine⟨f++[c],g++[c],_,au (by rw[C.out]),I.turned T6.out R.out.1 (fun e v=>?_) (fun e v=>?_),fun _=>by rw[C.out];simp[al.out],by simp;omega,by simp⟩
   ·rw[SB]at v;rcases v with v | v
    ·exact I.ply.shs e v
    ·simp at v;subst v;exact⟨F2,z⟩
   ·rw[SB]at v;rcases v with v | v
    ·exact I.ply.ths e v
    ·simp at v;subst v;exact⟨F2,z⟩
  ·have an:(c.xs.length:Int) > 32:=(by omega);have C:Hid (j6 w x y (f.map Ex.xs,n.map Ex.xs) b=(10,f.map Ex.xs,n.map Ex.xs)):=(by show _=_;rw[t.out,A,RY rfl,RU z]);clear t U u0 u1 u2 u3 u4;go_wp2;go_ret;exact⟨f,g,M,au (by rw[C.out]),I,by rw[C.out];simp,by omega,by omega⟩
def CD(fin:Pl)(goal:List ByteArray)(th:List (List ByteArray)):oL :=
 match th with
 | []=>(12,fin)
 | [x]=>if yq x goal=true then cM else(12,fin)
 | _ :: _ :: _=>(11,fin)
def ke(l:List St)(vs:List ByteArray)(ms:List Bool)(fin:Pl)(goal:List ByteArray):List kK->List (List ByteArray)×List (List ByteArray)->oL
 | [],S=>CD fin goal S.2
 | s :: r,S=>if((j6 l vs ms S s).1==0)=true then ke l vs ms fin goal r (j6 l vs ms S s).2 else((j6 l vs ms S s).1,s.at_)
def fE(l:List St)(a:Nat)(s:St)(steps:List kK):oL:=ke l (rd l a) (gq l a (rd l a)) s.fin s.We steps ([],[])
theorem Fe(a:S<H.length) :
  ke w x y y5 y9 (H.drop S) y6=if((j6 w x y y6 H[S]).1==0)=true then ke w x y y5 y9 (H.drop (S+1)) (j6 w x y y6 H[S]).2 else((j6 w x y y6 H[S]).1,H[S].at_):=by
 rw[Sq a];rfl
theorem CY(a:¬S<H.length) :
  ke w x y y5 y9 (H.drop S) y6=CD y5 y9 y6.2:=by
 rw[Tv (by omega)];rfl
theorem Kq(l:List kK)(k:Nat)(a:k<l.length)(j:Nat)(d:j<5):(xO l)[k*5+j]?=(lD l[k])[j]?:=by
 induction l generalizing k with
 | nil=>simp at a
 | cons s r c =>
  have e:xO (s :: r)=lD s++xO r:=rfl;rw[e];cases k with
  | zero=>rw[Si (by simp[lD];omega)];simp
  | succ k =>
   rw[Sf (by simp[lD];omega)];have b:(k+1)*5+j-(lD s).length=k*5+j:=by simp[lD];omega
   rw[b,c k (by simpa using a)];rfl
theorem aC.step{h:Hd}{l:List kK}(o:aC I h (gU l))(k:Nat)(m:k<l.length) :
  ∃g,h.ao=some ⟨g,0,none⟩/\l.length<=h.cap/\h.cap<=9223372036854775807/\I.cell? ⟨g,k*5,none⟩=some (int i64 l[k].kind)/\I.cell? ⟨g,k*5+1,none⟩=some (int i64 l[k].Wf)/\I.cell? ⟨g,k*5+2,none⟩=some (string l[k].at_.file)/\I.cell? ⟨g,k*5+3,none⟩=some (int i64 l[k].at_.line)/\I.cell? ⟨g,k*5+4,none⟩=some (int i64 l[k].at_.col):=by
 rcases o.Wu with ⟨_,f,_⟩ | ⟨g,d,a,p,e,b,-⟩
 ·have:l.length=0:=f;omega
 ·have c:=fun j (i:j<5) v (n:(lD l[k])[j]?=some v)=>o.cell a (k*5+j) v ((Kq l k m j i).trans n);exact⟨g,a,e,by unfold maxLen at b;exact b,c 0 (by omega) _ rfl,c 1 (by omega) _ rfl,c 2 (by omega) _ rfl,c 3 (by omega) _ rfl,c 4 (by omega) _ rfl⟩
structure Gq(l:List St)(steps:List kK):Prop where
 len:steps.length<=1100000
 num:∀s∈steps,s.Wf<=2000000
 named:∀s∈steps,(s.kind==3)=false->s.Wf<l.length
theorem K0(hr:f9 k o d w T)(ok:lu w)(ha:l<w.length)(ai:il k a w w.length z5)(hO:aC k i (gU H))(R:Gq w H) :
  Calls prog 163 #[pointer (some ⟨o,d,none⟩),int i64 l,slice (some ⟨a,0,none⟩) w.length w.length,slice i.ao H.length i.cap] k fun e c =>
   e=returned (ij (fE w l w[l] H))/\aa [] k c:=by
 have bg:=hr.lt;have bc:=ok.len;have bv:=R.len;have bT:=ok.syms l ha;obtain⟨AO,ac⟩:∃AO,Hid (i.ao=AO):=⟨_,rfl⟩
 rw[ac.out];obtain⟨W,hW⟩:∃W,W=k.alloc (.cells #[int i64 0,string ⟨#[]⟩,int i64 0,int i64 0] 165):=⟨_,rfl⟩
 have kW:=fN hW.symm;have BF:W.heap[k.heap.size]?=some (.cells bD 165):=by rw[hW];exact R2 _ _
 have HW:Hid _:=hW.symm;have bz:(rd w l).length<=w.length:=BD w l w.length;clear hW;go_enter func163,ntmps163;go_upto_region 1 with fail
 rw[HW.out];go_upto_region 2 with (go_at_call 209;refine(qZ o d l w T _ (by exact hr.Wj kW) ok).mono ?_;rintro e w2 ⟨a5,rfl,aT,be,k2⟩)
 have K2:=kW.trans k2;go_wp2_with (go_at_call 210;refine(Ll o d l w T a5 (rd w l) _ (by exact hr.Wj K2) ok (by exact aT) (by omega)).mono ?_;rintro e p ⟨tb,hv,hm,rfl,A3,bw,bp,k3⟩);have K3:=K2.trans k3;have N:=(k2.trans k3).get BF (by simp);have E:DZ p o d a tb w T z5 (rd w l) (gq w l (rd w l)) hv hm:=⟨hr.Wj K3,ok,ai.Wj K3,A3,mm _ _ _ _,by omega⟩;have D:aC p i (gU H):=hO.Wo (fun x S=>K3.block x (hO.lt S) (by simp));have P4:mE p (p.alloc (.cells #[pointer (some ⟨o,d,none⟩),slice (some ⟨a,0,none⟩) w.length w.length,pointer (some ⟨tb,0,none⟩),slice none 0 0,slice none 0 0] 307)) p.heap.size o d a w.length tb [] [] nt:=by
  refine⟨⟨⟨R2 _ _,?_,fun b j _=>R4 rfl,fun b e=>by simp[nt,Hd.blk]at e⟩,by simp,by simp⟩,(aa.refl [] _).alloc _,RV _,fun x S=>by obtain⟨b,hi⟩:=S;simp[nt,Hd.blk]at hi⟩;intro b
  match b with
  | 0=>exact Sb _ _ _ _
  | 1=>exact Sb _ _ _ _
  | m+2=>exact Sb _ _ _ _
 have br:=ae N
 go_loopg [11] H.length (fun gk iv wr=>∃(b:Nat) (K n:List Ex) (I:Nat->Hd),b<=H.length/\gk=H.length-b/\iv=int i64 b/\K.length<=b/\n.length<=b/\Hid (fE w l w[l] H=ke w (rd w l) (gq w l (rd w l)) w[l].fin w[l].We (H.drop b) (K.map Ex.xs,n.map Ex.xs))/\mE p wr p.heap.size o d a w.length tb K n I)
 case atStart=>exact⟨0,[],[],nt,by omega,by omega,rfl,by simp,by simp,rfl,P4⟩
 case round =>
  obtain⟨b,K,n,I,hi,hg,rfl,bs,bx,hR,P⟩:=hrel;clear P4;have B:=P.kept.get N (by simp);obtain⟨r,s,t,u⟩:=dm B;have L:=am B;have KW:=K3.trans P.kept;have ax:Hid _:=fun a0 a1 a2 a3=>kO (F:=k.heap.size) KW (RV _) a0 a1 a2 a3;by_cases g:b<H.length
  ·have O:aC wr i (gU H):=D.Wo (fun x S=>P.kept.block x (D.lt S) (by simp));obtain⟨gp,ep,a7,az,d0,d1,d2,d3,d4⟩:=O.step b g;obtain rfl:AO=some ⟨gp,0,none⟩:=ac.out.symm.trans ep;have bj:gp<wr.heap.size:=O.lt (by unfold Hd.blk;rw[ep];rfl);have h1:=R.num H[b] (Sj g);have h2:=R.named H[b] (Sj g);have f:Hid _:=hR.out.trans (Fe w (rd w l) (gq w l (rd w l)) w[l].fin w[l].We H (K.map Ex.xs,n.map Ex.xs) b g);have PA:=MH p wr p.heap.size o d a tb H[b] w T z5 (rd w l) (gq w l (rd w l)) hv hm K n I E P h2 h1 (by omega) (by omega);have ad:Hid (∀c,aa [] p c->c.cell? ⟨gp,b*5+2,none⟩=some (string H[b].at_.file)/\c.cell? ⟨gp,b*5+3,none⟩=some (int i64 H[b].at_.line)/\c.cell? ⟨gp,b*5+4,none⟩=some (int i64 H[b].at_.col)):=by
    intro c J;obtain⟨bd,af,-,-,-,-,q2,q3,q4⟩:=(D.Wo (w':=c) (fun x S=>J.block x (D.lt S) (by simp))).step b g;rw[ep]at af;cases af
    exact⟨q2,q3,q4⟩
   clear hR ep O;generalize H[b]=st at *;obtain⟨sk,sn,V,Y,U⟩:=st;simp only at d0 d1 d2 d3 d4 PA ad f;generalize j6 w (rd w l) (gq w l (rd w l)) (K.map Ex.xs,n.map Ex.xs) ⟨sk,sn,⟨V,Y,U⟩⟩=Q at *;obtain⟨q,Q2⟩:=Q;simp only at PA f;cases hq:(q==0)
   ·have a4:(q != 0)=true:=(by simp[bne,hq]);have z:Hid (fE w l w[l] H=(q,⟨V,Y,U⟩)):=(by show _=_;rw[f.out,RU (by rw[hq];simp)]);clear f;(go_upto_region 8 with (go_at_call 211;refine PA.mono ?_;rintro e Z ⟨an,ap,H5,rfl,P5,ag,-,-⟩));obtain⟨c2,c3,c4⟩:=ad.out Z P5.kept;have M:=P5.kept.get N (by simp);clear r s t u L d0 d1 d2 d3 d4 ax;obtain⟨r,s,t,u⟩:=dm M;have L:=am M;have K5:=K3.trans P5.kept;go_wp2;exact Sa (v:=agg #[int i64 q,string V,int i64 Y,int i64 U]) (by simp[results,results163,go_sem,r,s,t,u]) rfl
     ⟨by rw[z.out];rfl,kO (F:=k.heap.size) K5 (RV _) _ _ _ _⟩
   ·have a4:(q != 0)=false:=(by simp[bne,hq]);have z:Hid (fE w l w[l] H=ke w (rd w l) (gq w l (rd w l)) w[l].fin w[l].We (H.drop (b+1)) Q2):=(by show _=_;rw[f.out,RY hq]);clear f;go_wp2_with (go_at_call 211;refine PA.mono ?_;rintro e Z ⟨an,ap,H5,rfl,P5,ag,bl,bo⟩);go_roundg (H.length-(b+1))
    case measure=>omega
    case rel=>exact⟨b+1,an,ap,H5,by omega,rfl,by go_num,by omega,by omega,by show _=_;rw[ag hq];exact z.out,P5⟩
  ·have HE:Hid _:=hR.out.trans (CY w (rd w l) (gq w l (rd w l)) w[l].fin w[l].We H (K.map Ex.xs,n.map Ex.xs) b g);have Er:=E.Wj P.kept;clear hR;(go_upto_region 10 with (go_at_call 98;refine(bG o d l w T _ (by exact Er.recd) ha).mono ?_;rintro e Z ⟨rfl,k5⟩;unfold fL));obtain⟨X,hX⟩:∃X,X=Z.alloc (.cells #[int i64 w[l].kind,string w[l].label,slice (T (10+2*l)).ao w[l].We.length (T (10+2*l)).cap,slice (T (11+2*l)).ao w[l].Wp.length (T (11+2*l)).cap,string w[l].fin.file,int i64 w[l].fin.line,int i64 w[l].fin.col,int i64 w[l].til] 158):=⟨_,rfl⟩
   have kX:aa [] wr X:=(by rw[hX];exact k5.alloc _);have BX:=fY hX.symm;rw[<-hX];have PX:=P.Wj kX;have M:=kX.get B (by simp);clear hX r s t u L;obtain⟨r,s,t,u⟩:=dm M;have L:=am M;have KX:=KW.trans kX;obtain⟨-,-,m2,-,m4,m5,m6,-⟩:=vI BX;have p4:=PX.ply.cells.2;have bf:=PX.ply.bag.lt;rcases n with _ | ⟨x,n⟩
   ·have z:Hid (fE w l w[l] H=(12,w[l].fin)):=HE.out;simp only[List.length_nil]at p4;clear HE;(go_upto_region 12 with fail);go_quiet (fail);go_wp2;exact Sa (v:=agg #[int i64 12,string w[l].fin.file,int i64 w[l].fin.line,int i64 w[l].fin.col]) (by simp[results,results163,go_sem,r,s,t,u]) rfl
     ⟨by rw[z.out];rfl,kO (F:=k.heap.size) (KX.drewN _) (RV _) _ _ _ _⟩
   ·rcases n with _ | ⟨y,n⟩
    ·have hE:fE w l w[l] H=if yq x.xs w[l].We=true then cM else(12,w[l].fin):=HE.out;have A:Hid _:=hE;have oT:aC X (I 1) (gQ [x]):=PX.ply.bag.own 1;rcases oT.Wu with ⟨_,h0,_⟩ | ⟨gt,a6,et,-,aS,-⟩
     ·simp[gQ]at h0
     have ct:=oT.cell et 0 (wN x) rfl;unfold wN at ct;rw[et]at p4;simp only[List.length_cons,List.length_nil]at p4;have ba:1<=(I 1).cap:=aS;have al:=(PX.ply.ths x (by simp));have C:Hid _:=fun(c:World) (J:aa [] X c)=>yZ x.hd (T (10+2*l)) x.xs w[l].We c (al.1.view.Wj J) (((Er.Wj (kX.trans J)).recd.Wv.syms l w[l] (RQ ha)).view) (by omega) (by omega);have HC:Hid (∀c,aa [] X c->c.cell? ⟨p.heap.size,4,none⟩=some (slice (some ⟨gt,0,none⟩) 1 (I 1).cap)/\c.cell? ⟨gt,0,none⟩=some (slice x.hd.ao x.xs.length x.hd.cap)/\c.cell? ⟨Z.heap.size,2,none⟩=some (slice (T (10+2*l)).ao w[l].We.length (T (10+2*l)).cap)):=by
      intro c J;refine⟨?_,((PX.Wj J).ply.bag.own 1).cell et 0 (wN x) rfl,?_⟩
      ·rw[<-et];exact(PX.Wj J).ply.cells.2
      ·rw[aj (J.get BX (by simp))];rfl
     clear hE HE et oT;(go_upto_region 12 with fail);cases G:yq x.xs w[l].We
     ·have z:Hid (fE w l w[l] H=(12,w[l].fin)):=(by show _=_;rw[A.out,G];rfl);rw[G]at C;clear A;go_region_held3 (fun c=>c.cell? ⟨p.heap.size,4,none⟩=some (slice (some ⟨gt,0,none⟩) 1 (I 1).cap)/\c.cell? ⟨gt,0,none⟩=some (slice x.hd.ao x.xs.length x.hd.cap)/\c.cell? ⟨Z.heap.size,2,none⟩=some (slice (T (10+2*l)).ao w[l].We.length (T (10+2*l)).cap)) (go_keep) (first | (go_at_call 212;refine(C.out _ (by exact(aa.refl [] X).drew)).mono ?_;rintro e w6 ⟨rfl,k6⟩;obtain⟨x0,x1,x2⟩:=HC.out w6 ((aa.refl [] X).drew.trans k6)))
      all_goals
       have kk:=((aa.refl [] X).drew.trans k6);have ar:=kk.get BX (by simp);have B6:=kk.get M (by simp);clear r s t u L m2 m4 m5 m6 p4 ct;obtain⟨r,s,t,u⟩:=dm B6;have L:=am B6;obtain⟨-,-,-,-,m4,m5,m6,-⟩:=vI ar;go_wp2;exact Sa (v:=agg #[int i64 12,string w[l].fin.file,int i64 w[l].fin.line,int i64 w[l].fin.col]) (by simp[results,results163,go_sem,r,s,t,u]) rfl ⟨by rw[z.out];rfl,kO (F:=k.heap.size) (KX.trans kk) (RV _) _ _ _ _⟩
     ·have z:Hid (fE w l w[l] H=cM):=(by show _=_;rw[A.out,G];rfl);rw[G]at C;clear A;go_region_held3 (fun c=>c.cell? ⟨p.heap.size,4,none⟩=some (slice (some ⟨gt,0,none⟩) 1 (I 1).cap)/\c.cell? ⟨gt,0,none⟩=some (slice x.hd.ao x.xs.length x.hd.cap)/\c.cell? ⟨Z.heap.size,2,none⟩=some (slice (T (10+2*l)).ao w[l].We.length (T (10+2*l)).cap)) (go_keep) (first | (go_at_call 212;refine(C.out _ (by exact(aa.refl [] X).drew)).mono ?_;rintro e w6 ⟨rfl,k6⟩;obtain⟨x0,x1,x2⟩:=HC.out w6 ((aa.refl [] X).drew.trans k6)))
      all_goals
       have kk:=((aa.refl [] X).drew.trans k6);have B6:=kk.get M (by simp);clear r s t u L m2 m4 m5 m6 p4 ct;obtain⟨r,s,t,u⟩:=dm B6;have L:=am B6;go_wp2;exact Sa (v:=agg #[int i64 0,string ⟨#[]⟩,int i64 0,int i64 0]) (by simp[results,results163,go_sem,r,s,t,u]) rfl ⟨by rw[z.out];rfl,kO (F:=k.heap.size) (KX.trans kk) (RV _) _ _ _ _⟩
    ·have z:Hid (fE w l w[l] H=(11,w[l].fin)):=HE.out;have bk:((n.length:Int)+1+1 > 1):=(by omega);simp only[List.length_cons]at p4;clear HE;go_wp2;exact Sa (v:=agg #[int i64 11,string w[l].fin.file,int i64 w[l].fin.line,int i64 w[l].fin.col]) (by simp[results,results163,go_sem,r,s,t,u]) rfl
      ⟨by rw[z.out];rfl,kO (F:=k.heap.size) KX (RV _) _ _ _ _⟩
structure lx(w:World)(b o:Nat)(l:List St)(H:Nat->Hd)(g:Nat)(L:List Rw):Prop where
 recd:f9 w b o l H
 cell:∃arr t,w.heap[b]?=some (.cells arr t)/\arr[o+2]?=some (slice (some ⟨g,0,none⟩) L.length L.length)
 arr:w.heap[g]?=some (.cells (iI L).toArray 38)
theorem lx.Wj(h:lx I N z6 L zt g m)(k:aa [] I y7):lx y7 N z6 L zt g m:=by
 obtain⟨a,t,b,c⟩:=h.cell;exact⟨h.recd.Wj k,⟨a,t,k.get b (by simp),c⟩,k.get h.arr (by simp)⟩
theorem lx.at2(h:lx I N z6 L zt g m):I.cell? ⟨N,z6+2,none⟩=some (slice (some ⟨g,0,none⟩) m.length m.length):=by
 obtain⟨a,t,b,c⟩:=h.cell;rw[aj b];exact c
theorem lx.row(h:lx I N z6 L zt g m)(k:Nat)(b:k<m.length) :
  I.cell? ⟨g,k*6,none⟩=some (string m[k].label)/\I.cell? ⟨g,k*6+1,none⟩=some (int i64 m[k].Wk)/\I.cell? ⟨g,k*6+2,none⟩=some (int i64 m[k].why)/\I.cell? ⟨g,k*6+3,none⟩=some (string m[k].at_.file)/\I.cell? ⟨g,k*6+4,none⟩=some (int i64 m[k].at_.line)/\I.cell? ⟨g,k*6+5,none⟩=some (int i64 m[k].at_.col):=by
 have c:=fun j (a:j<6) v (d:(kU m[k])[j]?=some v)=>(aj h.arr (k*6+j)).trans ((by simp only[List.getElem?_toArray];exact(A8 m k b j a).trans d));exact⟨c 0 (by omega) _ rfl,c 1 (by omega) _ rfl,c 2 (by omega) _ rfl,c 3 (by omega) _ rfl,c 4 (by omega) _ rfl,c 5 (by omega) _ rfl⟩
def nX(L:List Rw)(n:Nat):Int:=(L.getD n qB).Wk
set_option maxRecDepth 512
theorem DH(h:lx k d a w z5 zb D) :
  Calls prog 96 #[pointer (some ⟨d,a,none⟩),int i64 l] k fun e g=>e=returned (int i64 (nX D l))/\g=k:=by
 have i:=h.at2;by_cases b:l<D.length
 ·have f:Hid (nX D l=D[l].Wk):=by show _=_;unfold nX;rw[RT,RQ b];rfl
  obtain⟨-,j,-,-,-,-⟩:=h.row l b;have c:¬((l:Int) ≥ D.length):=by omega
  go_enter func96,ntmps96;go_wp2;go_ret;exact⟨au (by rw[f.out]),rfl⟩
 ·have f:Hid (nX D l=0):=by show _=_;unfold nX;rw[RT,SG (by omega)];rfl
  have c:(l:Int) ≥ D.length:=by omega
  go_enter func96,ntmps96;go_wp2;go_ret;exact⟨au (by rw[f.out]),rfl⟩
def ua(steps:List kK):Option Nat:=(List.range steps.length).find? (fun i=>match steps[i]? with | some s=>s.kind==1 | none=>false)
theorem uw(v:aC k i (gU H))(B:H.length<=1073741824) :
  Calls prog 162 #[slice i.ao H.length i.cap] k fun e x=>e=returned (int i64 (qe (ua H)))/\x=k:=by
 obtain⟨l,f⟩:∃l,Hid (i.ao=l):=⟨_,rfl⟩
 rw[f.out];go_enter func162,ntmps162;go_wp2
 go_loopg [3] H.length (fun g c wr=>∃b:Nat,b<=H.length/\g=H.length-b/\c=int i64 b/\Hid (∀c,c<b->(match H[c]? with | some s=>s.kind==1 | none=>false)=false)/\wr=k)
 case atStart=>exact⟨0,by omega,by omega,rfl,fun c r=>by omega,rfl⟩
 case round =>
  obtain⟨b,A,z,rfl,a,rfl⟩:=hrel;by_cases d:b<H.length
  ·obtain⟨u,p,o,n,y,-⟩:=v.step b d;obtain rfl:l=some ⟨u,0,none⟩:=f.out.symm.trans p;clear p;have j:Hid (H[b]?=some H[b]):=RQ d;generalize H[b]=w at *;cases q:(w.kind==1)
   ·have t:Hid (∀c,c<b+1->(match H[c]? with | some s=>s.kind==1 | none=>false)=false):=by
     intro c r;by_cases e:c=b
     ·subst e;rw[j.out];exact q
     ·exact a.out c (by omega)
    clear j a;go_wp2;go_roundg (H.length-(b+1))
    case measure=>omega
    case rel=>exact⟨b+1,by omega,rfl,by go_num,t,rfl⟩
   ·have m:Hid (ua H=some b):=qM d (by rw[j.out];exact q) a.out;clear j a;go_wp2;go_ret;exact⟨au (by rw[m.out];rfl),rfl⟩
  ·have m:Hid (ua H=none):=pg (fun c r=>a.out c (by omega));clear a;go_wp2;go_ret;exact⟨au (by rw[m.out];rfl),rfl⟩
def wm(v:Int):Bool:=v==2||v==3||v==4
def mH(L:List Rw)(steps:List kK):Bool:=steps.all (fun s=>!(s.kind==2) || !(wm (nX L s.Wf)))
theorem OX(c:S<H.length)(a:(H[S].kind==2)=true)(b:wm (nX D H[S].Wf)=true):mH D H=false:=by
 cases e:mH D H
 ·rfl
 ·unfold mH at e;rw[Tb]at e;have:=e _ (Sj c);rw[a,b]at this;cases this
theorem M0(h:∀k (a:k<H.length),(!(H[k].kind==2) || !(wm (nX D H[k].Wf)))=true):mH D H=true:=by
 unfold mH;rw[Tb];intro x b;obtain⟨k,a,rfl⟩:=Tg b;exact h k a
theorem MZ(h:lx k a l w z5 zb D)(L:aC k i (gU H))(M:H.length<=1100000) :
  Calls prog 164 #[pointer (some ⟨a,l,none⟩),slice i.ao H.length i.cap] k fun e N=>e=returned (bool (mH D H))/\N=k:=by
 obtain⟨x,q⟩:∃x,Hid (i.ao=x):=⟨_,rfl⟩
 rw[q.out];go_enter func164,ntmps164;go_wp2
 go_loopg [5] H.length (fun zb d wr=>∃b:Nat,b<=H.length/\zb=H.length-b/\d=int i64 b/\Hid (∀d (p:d<H.length),d<b->(!(H[d].kind==2) || !(wm (nX D H[d].Wf)))=true)/\wr=k)
 case atStart=>exact⟨0,by omega,by omega,rfl,fun d _ p=>by omega,rfl⟩
 case round =>
  obtain⟨b,R,Q,rfl,j,rfl⟩:=hrel;by_cases s:b<H.length
  ·obtain⟨I,F,E,z,O,P,-⟩:=L.step b s;obtain rfl:x=some ⟨I,0,none⟩:=q.out.symm.trans F;clear F;have f:Hid ((!(H[b].kind==2) || !(wm (nX D H[b].Wf)))=true->∀d (p:d<H.length),d<b+1->(!(H[d].kind==2) || !(wm (nX D H[d].Wf)))=true):=by
    intro J d p K;by_cases e:d=b
    ·subst e;exact J
    ·exact j.out d p (by omega)
   have c:Hid _:=OX D H b s;have r:=DH a l H[b].Wf w z5 zb D wr h;clear j;generalize H[b]=u at *;cases o:(u.kind==2)
   ·have B:(u.kind != 2)=true:=(by simp[bne,o]);have y:Hid _:=(f.out (by rw[o];rfl));clear f c r;go_wp2;go_roundg (H.length-(b+1))
    case measure=>omega
    case rel=>exact⟨b+1,by omega,rfl,by go_num,y.out,rfl⟩
   ·have B:(u.kind != 2)=false:=(by simp[bne,o]);have m:Hid (∀v,wm v=(v==2||v==3||v==4)):=fun _=>rfl;generalize nX D u.Wf=V at *;cases t:(V==2)
    ·cases A:(V==3)
     ·cases G:(V==4)
      ·have y:Hid _:=f.out (by rw[m.out,t,A,G];simp);clear f c;go_wp2_with (go_at_call 96;refine r.mono ?_;rintro e C ⟨rfl,g⟩;rw[g]);go_roundg (H.length-(b+1))
       case measure=>omega
       case rel=>exact⟨b+1,by omega,rfl,by go_num,y.out,rfl⟩
      ·have n:Hid _:=c.out o (by rw[m.out,t,A,G];rfl);clear f c;go_wp2_with (go_at_call 96;refine r.mono ?_;rintro e C ⟨rfl,g⟩;rw[g]);go_ret;exact⟨aE n.out.symm,rfl⟩
     ·have n:Hid _:=c.out o (by rw[m.out,t,A];rfl);clear f c;go_wp2_with (go_at_call 96;refine r.mono ?_;rintro e C ⟨rfl,g⟩;rw[g]);go_ret;exact⟨aE n.out.symm,rfl⟩
    ·have n:Hid _:=c.out o (by rw[m.out,t];rfl);clear f c;go_wp2_with (go_at_call 96;refine r.mono ?_;rintro e C ⟨rfl,g⟩;rw[g]);go_ret;exact⟨aE n.out.symm,rfl⟩
  ·have n:Hid (mH D H=true):=M0 D H (fun d p=>j.out d p (by omega));clear j;go_wp2;go_ret;exact⟨aE n.out.symm,rfl⟩
theorem zd{t:ByteArray}(h:jo L t N=some z6):z6<L.length:=by
 unfold jo at h;have:=SU h;simpa using this
def Gl(l:List St)(s:kK):Prop:=s.Wf<=1020000/\((s.kind==3)=false->s.Wf<l.length)
theorem JB(g:0<w.length)(i:w.length<=10000)(c:List (ByteArray×Pl))(a:List kK)(h:∀s∈a,Gl w s)(N:Nat)(f:a.length<=N) :
  (∀s∈(dP w zb y5 c a).1,Gl w s)/\(dP w zb y5 c a).1.length<=N+c.length:=by
 induction c generalizing a N with
 | nil =>
  rw[dP];split
  ·exact⟨by simp,by simp⟩
  ·exact⟨h,by simpa using f⟩
 | cons x r e =>
  obtain⟨t,p⟩:=x;rw[dP];split
  ·have:=e (a++[⟨1,0,p⟩]) (by intro s b;simp at b;rcases b with b | rfl;exact h s b;exact⟨by simp,fun _=>g⟩) (N+1) (by simp;omega);exact⟨this.1,by have:=this.2;simp;omega⟩
  ·split
   ·exact⟨by simp,by simp⟩
   ·next n j =>
    have d:=zd j;have:=e (a++[⟨2,n,p⟩]) (by intro s b;simp at b;rcases b with b | rfl;exact h s b;exact⟨by simp only;omega,fun _=>d⟩) (N+1) (by simp;omega);exact⟨this.1,by have:=this.2;simp;omega⟩
structure yk(l:List St)(c:lj):Prop where
 names:∀n∈c.names,n<l.length
 Wr:∀n∈c.Wr,n<=1020000
 steps:∀s∈c.steps,Gl l s
theorem yk.letter{c:lj}(g:yk L c)(h:iY c N)(f:0<L.length)(i:L.length<=10000)(k:N<=1020000)(n:Nat)(p:Pl):yk L (bB c n p).2:=by
 have j:=h.steps;unfold bB;split
 ·unfold eQ dB;split
  ·next b =>
   refine⟨g.names,g.Wr,?_⟩;intro s a;simp at a;rcases a with a | rfl
   ·exact g.steps s a
   ·have:=g.names _ (Sj b);rw[RQ b];exact⟨by simp only[Option.getD_some];omega,fun _=>this⟩
  ·split
   ·next b =>
    refine⟨g.names,g.Wr,?_⟩;intro s a;simp at a;rcases a with a | rfl
    ·exact g.steps s a
    ·have:=g.Wr _ (Sj b);rw[RQ b];exact⟨this,fun e=>by simp at e⟩
   ·exact⟨g.names,g.Wr,g.steps⟩
 ·split
  ·unfold jx;split <;> exact⟨g.names,g.Wr,g.steps⟩
  ·split
   ·refine⟨g.names,?_,g.steps⟩;intro x d;simp at d;rcases d with d | rfl
    ·exact g.Wr x d
    ·omega
   ·split
    ·refine⟨g.names,g.Wr,?_⟩;intro s a;simp[dB]at a;rcases a with a | rfl
     ·exact g.steps s a
     ·exact⟨by simp,fun _=>f⟩
    ·exact g
theorem Bp(l:0<L.length)(b:L.length<=10000)(t:ByteArray)(p:Pl)(f:Nat):∀(j:Nat) (c:lj) (N:Nat),yk L c->iY c (N+j)->j<=t.size->N+t.size<=1020000->yk L (gK t p f j c).2:=by
 induction f with
 | zero=>intro j c N g h k e;exact g
 | succ f n =>
  intro j c N g h k e;rw[gK];split
  ·next m =>
   have i:=h.letter (aH t j).toNat { p with col:=p.col+j };have d:=g.letter h l b (by omega) (aH t j).toNat { p with col:=p.col+j };split
   ·exact n (j+1) _ N d (by rw[<-UR];exact i) (by omega) e
   ·exact d
  ·exact g
theorem Br(j:0<L.length)(d:L.length<=10000)(a:List (ByteArray×Pl)):∀(c:lj) (N:Nat),yk L c->iY c N->N+kG a<=1020000->yk L (pt a c).2/\iY (pt a c).2 1020000:=by
 induction a with
 | nil=>intro c N g h b;exact⟨g,h.mono (by simp[kG]at b;omega)⟩
 | cons x r k =>
  intro c N g h b;obtain⟨t,p⟩:=x;have i:kG ((t,p) :: r)=t.size+kG r:=by simp[kG]
  rw[i]at b;have e:yk L (lV t p c).2:=Bp j d t p _ 0 c N g h (SE _) (by omega);have f:=zQ t p h;rw[pt];split
  ·exact k _ (N+t.size) e f (by omega)
  ·exact⟨e,f.mono (by omega)⟩
theorem Eh(c:List (ByteArray×Pl))(i:Nat)(b:List Nat)(h:∀n∈b,n<w.length):∀n∈(bW w zb y5 i c b).2,n<w.length:=by
 induction c generalizing i b with
 | nil=>exact h
 | cons x r e =>
  obtain⟨t,p⟩:=x;rw[bW];split
  ·exact h
  ·split
   ·exact h
   ·next n d =>
    split
    ·exact h
    ·exact e (i+1) (b++[n]) (by intro m a;simp at a;rcases a with a | rfl;exact h m a;exact zd d)
theorem Qt(c:lu w)(m:S<w.length)(j:yN w[S]):Gq w (dK w S w[S]).1:=by
 have k:0<w.length:=by omega
 have p:=c.prfs S m;have q:=j.size;have a:(∀s∈(dK w S w[S]).1,Gl w s)/\(dK w S w[S]).1.length<=1100000:=by
  unfold dK;split
  ·unfold kM yX;have e:=BU w S w[S] c.len p;have f:yk w ⟨(bW w S w[S].fin 1 (w[S].Wp.drop 1) (aN w S)).2,[],[],0,false⟩:=⟨Eh w S w[S].fin _ 1 _ (fun n o=>Cw o),by simp,by simp⟩;generalize bW w S w[S].fin 1 (w[S].Wp.drop 1) (aN w S)=l at *;obtain⟨⟨b,d⟩,i⟩:=l;simp only at e f ⊢;have rV:yk w (Bt d (w[S].Wp.drop b) ⟨i,[],[],0,false⟩).2/\iY (Bt d (w[S].Wp.drop b) ⟨i,[],[],0,false⟩).2 1020000:=by
    unfold Bt;split
    ·exact Br k c.len _ _ 20000 f e (by have:=Dq w[S].Wp b;omega)
    ·exact⟨f,e.mono (by omega)⟩
   generalize Bt d (w[S].Wp.drop b) ⟨i,[],[],0,false⟩=R at *;unfold ng;split
   ·split
    ·split
     ·exact⟨by simp,by simp⟩
     ·exact⟨rV.1.steps,by have:=rV.2.steps;simp only;omega⟩
    ·exact⟨by simp,by simp⟩
   ·exact⟨by simp,by simp⟩
  ·have:=JB w S w[S].fin k c.len w[S].Wp [] (by simp) 0 (by simp);exact⟨this.1,by have:=this.2;omega⟩
 exact⟨a.2,fun s g=>by have:=(a.1 s g).1;omega,fun s g=>(a.1 s g).2⟩
end Go.Proofs.YtnbhnocdhbcbcaaGreat
