import Derived.Test.YtnbhnocdhbcbcaaGreatU31
namespace Go.Proofs.YtnbhnocdhbcbcaaGreat
open Go.RowKit Tryz
open Value IntKind Ending
set_option maxHeartbeats 0
variable{T y3:World}{t y5:Hd}{H y0:Fs}{S g M z4 z6 y6 y7:Nat}{u:Nat×Nat->It}{i:Mc}{zt y2:Option Nat}{ya y9:Xs}(L v:Nat)(z3:Fs)(z0:Hd)(s D b l:Nat)(y1:Option Nat)(I:Nat×Nat->It)(w:Mc)(y4 d N m:Int)(y n:Xs)(f:World)
theorem Nw:(prog.info? 33).map (fun i=>(i.zero,i.size,i.bytes))=some (some (slice none 0 0),1,24):=by kernel_rfl
theorem rM(L:List (Option Nat×Fs))(x:Option Nat×Fs):(⟨(iY L).e,(iY L).size,(iY L).n+1,(iY L).xs++[Cb x]⟩:ew)=iY (L++[x]):=by
 simp[iY]
theorem aB.srcO(o:aB T t (de H)):lL T t.ao H:=by
 intro k d;obtain⟨g,e,c,a,b⟩:=o.srcFi.2 k d;exact⟨g,0,e,c,by rw[V3];exact a,by rw[V3];exact b⟩
theorem cJ.addL{a c:Option Nat}{fs:Fs}{J:Nat×Nat->It}(h:cJ T S u i g)(s:my fs)(p:fs.length<=g+1)(f:J=fT (fT (fT u (8,i.L.length) (v7 a fs)) (4,0) (cW t (iY (i.L.map (fun l=>(l.1,l.2.2))++[(a,fs)])))) (0,0) (sS S 42 (i.cells.set 3 (slice t.ao (i.L.length+1) t.cap))))(y:pH y3 (fT (fT (fT J (9,i.L.length) (v7 c fs)) (5,0) (cW y5 (iY (i.L.map (fun l=>(l.2.1,l.2.2))++[(c,fs)])))) (0,0) (sS S 42 ((i.cells.set 3 (slice t.ao (i.L.length+1) t.cap)).set 4 (slice y5.ao (i.L.length+1) y5.cap))))) :
  ∃n o,cJ y3 S n o (g+1)/\sG u i n o:=by
 refine⟨_,{ i with hl:=t,hc:=y5,L:=i.L++[(a,c,fs)] },⟨y,?_,?_,?_,?_,?_,?_,?_,?_,?_,?_,?_⟩,?_⟩
 ·rw[bV];unfold Mc.cells;rw[Uh];rfl
 ·subst f;simp only[fT];exact h.x
 ·subst f;simp only[fT];exact h.m
 ·subst f;simp only[fT];exact h.r
 ·subst f;rw[au _ _ (bG (by decide)),au _ _ (bG (by decide)),au _ _ (bG (by decide)),au _ _ (bG (by decide)),bV,UJ];rfl
 ·rw[au _ _ (bG (by decide)),bV,UJ];rfl
 ·intro d x m fs b;subst f;simp only[fT];exact h.v d x m fs b
 ·intro d x m k b;rw[au _ _ (bG (by decide)),au _ _ (bG (by decide)),au _ _ (bG (by decide)),au _ _ (bG (by decide)),au _ _ (bG (by decide))];replace b:(i.L++[(a,c,fs)])[d]?=some (x,m,k):=b;subst f;rw[au _ _ (bG (by decide)),au _ _ (bG (by decide))];by_cases e:d<i.L.length
  ·rw[Uv e]at b;rw[au _ _ (vm (by omega)),au _ _ (vm (by omega)),au _ _ (bG (by decide)),au _ _ (bG (by decide)),au _ _ (bG (by decide))];exact h.more.l d x m k b
  ·have q:d=i.L.length:=by
    have:=(Uk.1 b).1;rw[Uh]at this;have:d<i.L.length+1:=this;omega
   subst q;rw[Ur (Ue _),U3]at b;cases b
   rw[bV,bV];exact⟨rfl,rfl,s,p⟩
 ·exact h.fit
 ·refine⟨h.more.len.1,h.more.len.2.1,?_⟩;have:=h.len.2.2
  show(i.L++[(a,c,fs)]).length<=_
  rw[Uh];show _+1<=_;omega
 ·exact h.rng
 ·subst f;exact⟨fun j d w=>by(repeat rw[qe (by decide) w]),rfl,rfl⟩
theorem pH.rowAt{c:List Value}{k:Nat×Nat}{r:ew}(s:pH T u)(a:u (0,0)=sS S g c)(b:k≠(0,0))(e:u k=cW t r):T.heap[S]?=some (.cells c.toArray g)/\aB T t r/\S∉t.Yv.toList:=by
 refine⟨?_,?_,fun d=>s.far (0,0) k (Ne.symm b) S (by rw[a];exact Uq.2 rfl) (by rw[e];exact d)⟩
 ·have:=s.all (0,0);rw[a]at this;exact this
 ·have:=s.all k;rw[e]at this;exact this
set_option maxRecDepth 100000
theorem R2(h:cJ f b I w l)(hN:l<=1073741824) :
  Calls prog 12 #[pointer (some ⟨b,0,none⟩),agg #[int i64 5,int i64 d,int i64 N,int i64 m,string y,string n]] f fun e w'=>jo b I w l true e w':=by
 obtain⟨W,HW⟩:=bm (f.alloc (.cells #[int i64 5,int i64 d,int i64 N,int i64 m,string y,string n] 28));obtain⟨z,hB,ag,-⟩:=h.boxed 5 d N m y n W HW.o;obtain⟨o0,-⟩:=dx hB;obtain⟨iX,S,s,t,u⟩:=UC Nw;have HM:Xr (cJ W b I w l):=z;have af:Xr ((iY (w.L.map (fun g=>(g.1,g.2.2)))).n<=4294967296):=by show(w.L.map _).length<=_;rw[Uy];have:=h.len.2.2;omega
 have ad:Xr ((iY (w.L.map (fun g=>(g.2.1,g.2.2)))).n<=4294967296):=by show(w.L.map _).length<=_;rw[Uy];have:=h.len.2.2;omega
 have E:Xr ((iY (w.L.map (fun g=>(g.1,g.2.2)))).n=w.L.length):=Uy _;have B:Xr ((iY (w.L.map (fun g=>(g.2.1,g.2.2)))).n=w.L.length):=Uy _;have Y:Xr (pH W (fT I (8,w.L.length) (v7 none []))):=z.sep.put _ _ (ae.refl _ _) ⟨fun _=>rfl,fun b e=>by cases e⟩ (fun q hq=>by cases hq);obtain⟨J,A⟩:∃J,Xr (J=fT I (8,w.L.length) (v7 none [])):=⟨_,rfl⟩
 rw[<-A.o]at Y;have K:Xr (J (0,0)=sS b 42 w.cells):=cM (by rw[A.o,au _ _ (bG (by decide))];exact z.w0);have M:Xr (J (4,0)=cW w.hl (iY (w.L.map (fun g=>(g.1,g.2.2))))):=cM (by rw[A.o,au _ _ (bG (by decide))];exact z.ls);have ac:Xr (J (5,0)=cW w.hc (iY (w.L.map (fun g=>(g.2.1,g.2.2))))):=cM (by rw[A.o,au _ _ (bG (by decide))];exact z.lw);obtain⟨p1,P,p⟩:=Y.o.rowAt K.o (bG (by decide)) M.o;have C:Xr (W.heap[b]?=some (.cells w.cells.toArray 42)/\b∉w.hl.Yv.toList):=⟨p1,p⟩;have c0:W.cell? ⟨b,3,none⟩=some (slice w.hl.ao w.L.length w.hl.cap):=by rw[ah p1];rfl
 clear h z hB p1 p;go_enter func12,ntmps12;go_upto_region 1 with fail
 rw[HW.o];go_upto_region 22 with (at_builtin;refine dB W rfl (.tmp 105) (.tmp 106) 34 rfl iX (slice none 0 0) 24 w.hl (iY (w.L.map (fun g=>(g.1,g.2.2)))) [Cb (none,[])] underlying34 S s t u rfl UA (by rw[E.o];simp[Act.eval]) P af.o (by omega) (by simp[Act.eval]) rfl (by simp[Cb,Value.oneCell']) ?_;intro i w5 x v;rw[rM]at x;have U:=v.Yu.get C.o.1 C.o.2;have f5:=am U;have c5:w5.cell? ⟨b,3,none⟩=some (slice w.hl.ao w.L.length w.hl.cap):=(by rw[ah U];rfl);have z5:=aj U)
 rw[E.o];have Z:Xr _:=(Y.o.grown K.o (bG (by decide)) M.o v x 3 (slice i.ao (w.L.length+1) i.cap));obtain⟨V,X⟩:=bm (w5.setCell ⟨b,3,none⟩ (slice i.ao (w.L.length+1) i.cap));rw[X.o]at Z ⊢;obtain⟨F,O⟩:∃F,F=fT (fT J (4,0) (cW i (iY (w.L.map (fun g=>(g.1,g.2.2))++[(none,[])])))) (0,0) (sS b 42 (w.cells.set 3 (slice i.ao (w.L.length+1) i.cap))):=⟨_,rfl⟩
 have k:Xr _:=O;clear O;rw[<-k.o]at Z;have S6:Xr (pH V (fT F (9,w.L.length) (v7 none []))):=Z.o.put _ _ (ae.refl _ _) ⟨fun _=>rfl,fun b e=>by cases e⟩ (fun q hq=>by cases hq);have G:Xr (fT F (9,w.L.length) (v7 none []) (0,0)=sS b 42 (w.cells.set 3 (slice i.ao (w.L.length+1) i.cap))):=cM (by rw[au _ _ (bG (by decide)),k.o,bV]);have H:Xr (fT F (9,w.L.length) (v7 none []) (5,0)=cW w.hc (iY (w.L.map (fun g=>(g.2.1,g.2.2))))):=cM (by rw[au _ _ (bG (by decide)),k.o,au _ _ (bG (by decide)),au _ _ (bG (by decide))];exact ac.o);obtain⟨b6,Q,r⟩:=S6.o.rowAt G.o (bG (by decide)) H.o;have D:Xr (V.heap[b]?=some (.cells (w.cells.set 3 (slice i.ao (w.L.length+1) i.cap)).toArray 42)/\b∉w.hc.Yv.toList):=⟨b6,r⟩;clear U f5 c5 z5 x v c0 P;have c1:V.cell? ⟨b,4,none⟩=some (slice w.hc.ao w.L.length w.hc.cap):=by rw[ah b6];rfl
 clear b6 r;go_wp2_with (at_builtin;refine dB V rfl (.tmp 115) (.tmp 116) 34 rfl iX (slice none 0 0) 24 w.hc (iY (w.L.map (fun g=>(g.2.1,g.2.2)))) [Cb (none,[])] underlying34 S s t u rfl UA (by rw[B.o];simp[Act.eval]) Q ad.o (by omega) (by simp[Act.eval]) rfl (by simp[Cb,Value.oneCell']) ?_;intro h7 w7 T R;rw[rM]at T;have p7:=R.Yu.get D.o.1 D.o.2;have f7:=am p7;have c7:w7.cell? ⟨b,4,none⟩=some (slice w.hc.ao w.L.length w.hc.cap):=(by rw[ah p7];rfl);have z7:=aj p7;rw[B.o]);go_ret;have S7:=S6.o.grown G.o (bG (by decide)) H.o R T 4 (slice h7.ao (w.L.length+1) h7.cap);exact⟨rfl,HM.o.addL (a:=none) (c:=none) (fs:=[]) (fun j=>⟨by show(0:Nat)<=_;omega,by show(0:Nat)<=_;omega⟩) (UF _) (by rw[k.o,A.o]) S7⟩
theorem R0(h:cJ f b I w l)(hN:l<=1073741824) :
  Calls prog 12 #[pointer (some ⟨b,0,none⟩),agg #[int i64 4,int i64 d,int i64 N,int i64 m,string y,string n]] f fun e w'=>jo b I w l true e w':=by
 obtain⟨W,HW⟩:=bm (f.alloc (.cells #[int i64 4,int i64 d,int i64 N,int i64 m,string y,string n] 28));obtain⟨hM,hB,aS,-⟩:=h.boxed 4 d N m y n W HW.o;obtain⟨o0,-⟩:=dx hB;obtain⟨iX,ac,u,v,x⟩:=UC Nw;have z:Xr (cJ W b I w l):=hM;have A:Xr (w.reg.length<=l):=h.len.2.1;have az:Xr ((iY (w.L.map (fun g=>(g.1,g.2.2)))).n<=4294967296):=by show(w.L.map _).length<=_;rw[Uy];have:=h.len.2.2;omega
 have ax:Xr ((iY (w.L.map (fun g=>(g.2.1,g.2.2)))).n<=4294967296):=by show(w.L.map _).length<=_;rw[Uy];have:=h.len.2.2;omega
 have O:Xr ((iY (w.L.map (fun g=>(g.1,g.2.2)))).n=w.L.length):=Uy _;have H:Xr ((iY (w.L.map (fun g=>(g.2.1,g.2.2)))).n=w.L.length):=Uy _;have ai:Xr (Calls prog 30 #[slice w.hr.ao w.reg.length w.hr.cap] W _):=kt w.hr.ao w.hr.cap w.reg W hM.ownR.srcO (by have:=A.o;omega);have c2:W.cell? ⟨b,2,none⟩=some (slice w.hr.ao w.reg.length w.hr.cap):=by rw[ah hM.Yv];rfl
 clear h hM hB;go_enter func12,ntmps12;go_upto_region 1 with fail
 rw[HW.o];go_upto_region 14 with (go_at_call 30;refine Ug ai.o ?_;rintro e w1 ⟨rfl,X,k1⟩)
 have S1:Xr (pH w1 (fT I (8,w.L.length) (v7 (some W.heap.size) w.reg))):=z.o.sep.put _ _ (k1.mono (by simp)) ⟨(fun e=>by cases e),(fun q e=>by cases e;exact X)⟩ (fun q hq=>Uo (by rw[Uq.1 hq];exact Ue _));obtain⟨B1,af⟩:=bm (W.heap.size);rw[af.o]at S1 ⊢;obtain⟨J,E⟩:∃J,Xr (J=fT I (8,w.L.length) (v7 (some B1) w.reg)):=⟨_,rfl⟩
 rw[<-E.o]at S1;have R:Xr (J (0,0)=sS b 42 w.cells):=cM (by rw[E.o,au _ _ (bG (by decide))];exact z.o.w0);have ap:Xr (J (3,0)=cW w.hr (de w.reg)):=cM (by rw[E.o,au _ _ (bG (by decide))];exact z.o.r);have S:Xr (J (4,0)=cW w.hl (iY (w.L.map (fun g=>(g.1,g.2.2))))):=cM (by rw[E.o,au _ _ (bG (by decide))];exact z.o.ls);have ar:Xr (J (5,0)=cW w.hc (iY (w.L.map (fun g=>(g.2.1,g.2.2))))):=cM (by rw[E.o,au _ _ (bG (by decide))];exact z.o.lw);obtain⟨p1,U,p⟩:=S1.o.rowAt R.o (bG (by decide)) S.o;have K:Xr (w1.heap[b]?=some (.cells w.cells.toArray 42)/\b∉w.hl.Yv.toList):=⟨p1,p⟩;have c0:w1.cell? ⟨b,3,none⟩=some (slice w.hl.ao w.L.length w.hl.cap):=by rw[ah p1];rfl
 clear p1 p c2 k1 X;go_upto_region 16 with (at_builtin;refine dB w1 rfl (.tmp 76) (.tmp 78) 34 rfl iX (slice none 0 0) 24 w.hl (iY (w.L.map (fun g=>(g.1,g.2.2)))) [Cb (some B1,w.reg)] underlying34 ac u v x rfl UA (by rw[O.o];simp[Act.eval]) U az.o (by omega) (by simp[Act.eval]) rfl (by simp[Cb,Value.oneCell']) ?_;intro i w5 D C;rw[rM]at D;have p5:=C.Yu.get K.o.1 K.o.2;have f5:=am p5;have c5:w5.cell? ⟨b,3,none⟩=some (slice w.hl.ao w.L.length w.hl.cap):=(by rw[ah p5];rfl);have z5:=aj p5)
 rw[O.o];have S5:Xr _:=(S1.o.grown R.o (bG (by decide)) S.o C D 3 (slice i.ao (w.L.length+1) i.cap));obtain⟨w6,al⟩:=bm (w5.setCell ⟨b,3,none⟩ (slice i.ao (w.L.length+1) i.cap));rw[al.o]at S5 ⊢;obtain⟨B,T⟩:∃B,B=fT (fT J (4,0) (cW i (iY (w.L.map (fun g=>(g.1,g.2.2))++[(some B1,w.reg)])))) (0,0) (sS b 42 (w.cells.set 3 (slice i.ao (w.L.length+1) i.cap))):=⟨_,rfl⟩
 have j:Xr _:=T;clear T;rw[<-j.o]at S5;have an:Xr (B (3,0)=cW w.hr (de w.reg)):=cM (by rw[j.o,au _ _ (bG (by decide)),au _ _ (bG (by decide))];exact ap.o);have k:Xr (B (0,0)=sS b 42 (w.cells.set 3 (slice i.ao (w.L.length+1) i.cap))):=cM (by rw[j.o,bV]);obtain⟨F,t,-⟩:=S5.o.rowAt k.o (bG (by decide)) an.o;have G:Xr (Calls prog 30 #[slice w.hr.ao w.reg.length w.hr.cap] w6 _):=kt w.hr.ao w.hr.cap w.reg w6 t.srcO (by have:=A.o;omega);clear p5 f5 c5 z5 D C c0 U t;have c2:w6.cell? ⟨b,2,none⟩=some (slice w.hr.ao w.reg.length w.hr.cap):=by rw[ah F];rfl
 clear F;go_upto_region 17 with (go_at_call 30;refine Ug G.o ?_;rintro e w8 ⟨rfl,Y,k2⟩)
 have S6:Xr (pH w8 (fT B (9,w.L.length) (v7 (some w6.heap.size) w.reg))):=S5.o.put _ _ (k2.mono (by simp)) ⟨(fun e=>by cases e),(fun q e=>by cases e;exact Y)⟩ (fun q hq=>Uo (by rw[Uq.1 hq];exact Ue _));obtain⟨B2,ag⟩:=bm (w6.heap.size);rw[ag.o]at S6 ⊢;clear c2 k2 Y;have P:Xr (fT B (9,w.L.length) (v7 (some B2) w.reg) (0,0)=sS b 42 (w.cells.set 3 (slice i.ao (w.L.length+1) i.cap))):=cM (by rw[au _ _ (bG (by decide))];exact k.o);have Q:Xr (fT B (9,w.L.length) (v7 (some B2) w.reg) (5,0)=cW w.hc (iY (w.L.map (fun g=>(g.2.1,g.2.2))))):=cM (by rw[au _ _ (bG (by decide)),j.o,au _ _ (bG (by decide)),au _ _ (bG (by decide))];exact ar.o);obtain⟨F,V,s⟩:=S6.o.rowAt P.o (bG (by decide)) Q.o;have M:Xr (w8.heap[b]?=some (.cells (w.cells.set 3 (slice i.ao (w.L.length+1) i.cap)).toArray 42)/\b∉w.hc.Yv.toList):=⟨F,s⟩;have c1:w8.cell? ⟨b,4,none⟩=some (slice w.hc.ao w.L.length w.hc.cap):=by rw[ah F];rfl
 clear F s;go_wp2_with (at_builtin;refine dB w8 rfl (.tmp 92) (.tmp 94) 34 rfl iX (slice none 0 0) 24 w.hc (iY (w.L.map (fun g=>(g.2.1,g.2.2)))) [Cb (some B2,w.reg)] underlying34 ac u v x rfl UA (by rw[H.o];simp[Act.eval]) V ax.o (by omega) (by simp[Act.eval]) rfl (by simp[Cb,Value.oneCell']) ?_;intro h7 w7 ad Z;rw[rM]at ad;have p7:=Z.Yu.get M.o.1 M.o.2;have f7:=am p7;have c7:w7.cell? ⟨b,4,none⟩=some (slice w.hc.ao w.L.length w.hc.cap):=(by rw[ah p7];rfl);have z7:=aj p7;rw[H.o]);go_ret;have S7:=S6.o.grown P.o (bG (by decide)) Q.o Z ad 4 (slice h7.ao (w.L.length+1) h7.cap);exact⟨rfl,z.o.addL (a:=some B1) (c:=some B2) (fs:=w.reg) z.o.fit (by have:=A.o;omega) (by rw[j.o,E.o]) S7⟩
theorem I2{L:List (Option Nat×Option Nat×Fs)}(b:L[S]?=some (zt,y2,H))(f:Option Nat×Option Nat×Fs->Option Nat×Fs)(c:Cb (f (zt,y2,y0))=Cb (f (zt,y2,H))):iY ((L.set S (zt,y2,y0)).map f)=iY (L.map f):=by
 unfold iY;have e:((L.set S (zt,y2,y0)).map f).map Cb=(L.map f).map Cb:=by
  rw[Wo,Wo,c];apply VZ;intro j;rw[Ve];by_cases a:S=j
  ·subst a;rw[Uf rfl,UL,UL,b];have:=(Uk.1 b).1;simp[this]
  ·rw[Ud a]
 rw[e,Uy,UZ,Uy]
theorem Kg(h:my H)(i:Nat)(b:ya.size<=1073741824)(a:y9.size<=1073741824):my (H.set i (ya,y9)):=by
 intro j;have:=h j;unfold aF ak at *;rw[Uc]at *;rw[Ve];by_cases e:i=j
 ·subst e;rw[Uf rfl];split
  ·exact⟨b,a⟩
  ·exact⟨by show(0:Nat)<=_;omega,by show(0:Nat)<=_;omega⟩
 ·rw[Ud e];exact this
theorem cJ.wrote(h:cJ T S u i g)(d:i.L[M]?=some (zt,y2,H))(n:y0.length=H.length)(s:my y0)(w:pH y3 (fT (fT u (8,M) (v7 zt y0)) (9,M) (v7 y2 y0))):∃f k,cJ y3 S f k (g+1)/\sG u i f k:=by
 refine⟨_,{ i with L:=i.L.set M (zt,y2,y0) },⟨w,?_,?_,?_,?_,?_,?_,?_,?_,?_,?_,?_⟩,?_⟩
 ·rw[au _ _ (bG (by decide)),au _ _ (bG (by decide)),h.w0];unfold Mc.cells;rw[UZ]
 ·simp only[fT];exact h.x
 ·simp only[fT];exact h.m
 ·simp only[fT];exact h.r
 ·rw[au _ _ (bG (by decide)),au _ _ (bG (by decide)),h.ls];congr 1;exact(I2 d (fun l=>(l.1,l.2.2)) (by simp only[Cb,n])).symm
 ·rw[au _ _ (bG (by decide)),au _ _ (bG (by decide)),h.lw];congr 1;exact(I2 d (fun l=>(l.2.1,l.2.2)) (by simp only[Cb,n])).symm
 ·intro b x m H a;simp only[fT];exact h.v b x m H a
 ·intro b x m c a;replace a:(i.L.set M (zt,y2,y0))[b]?=some (x,m,c):=a;rw[Ve]at a;rw[au _ _ (bG (by decide))];by_cases e:M=b
  ·subst e;rw[Uf rfl,Uf (Uk.1 d).1]at a;cases a
   obtain⟨-,-,-,y⟩:=h.l M zt y2 H d;rw[bV,bV];exact⟨rfl,rfl,s,by omega⟩
  ·rw[Ud e]at a;rw[au _ _ (vm (Ne.symm e)),au _ _ (vm (Ne.symm e)),au _ _ (bG (by decide))];exact h.more.l b x m c a
 ·exact h.fit
 ·obtain⟨o,p,q⟩:=h.more.len;exact⟨o,p,by show(i.L.set M (zt,y2,y0)).length<=_;rw[UZ];exact q⟩
 ·exact h.rng
 ·exact⟨fun j b t=>by(repeat rw[qe (by decide) t]),rfl,rfl⟩
theorem jx.wrote(h:jx T (some S) H)(a:g<H.length)(n d:Xs):jx ((T.setCell ⟨S,g*2,none⟩ (string n)).setCell ⟨S,g*2+1,none⟩ (string d)) (some S) (H.set g (n,d))/\ae [S] T ((T.setCell ⟨S,g*2,none⟩ (string n)).setCell ⟨S,g*2+1,none⟩ (string d)):=by
 refine⟨⟨(fun e=>by cases e),fun q e=>?_⟩,((ae.refl _ _).sl1 _).sl1 _⟩;cases e
 rw[ab (ab (h.Yv S rfl) _ _) _ _,U0,U0,IM H g n d a]
theorem jx.cells(h:jx T (some S) H)(d:g<H.length):(T.cell? ⟨S,g*2,none⟩=some (string (aF H g))/\T.cell? ⟨S,g*2+1,none⟩=some (string (ak H g)))/\(∀j,T.frozen? ⟨S,j,none⟩=false)/\S<T.heap.size:=by
 have a:=h.Yv S rfl;obtain⟨b,c⟩:=xN H g d;exact⟨⟨by rw[ah a];simpa using b,by rw[ah a];simpa using c⟩,am a,aj a⟩
theorem pt{L:List (Option Nat×Fs)}(o:aB T t (iY L)){k:Nat}{x:Option Nat×Fs}(c:L[k]?=some x):∃g,t.ao=some ⟨g,0,none⟩/\g<T.heap.size/\T.cell? ⟨g,k,none⟩=some (Cb x):=by
 have i:=(Uk.1 c).1;rcases o.Ys with ⟨_,b,_⟩ | ⟨g,d,a,e,f,-⟩
 ·have b:L.length=0:=b;omega
 ·exact⟨g,a,aj e,o.cell a k (Cb x) (by show(L.map Cb)[k]?=_;rw[UL,c];rfl)⟩
theorem R4(h:cJ f b I w l)(hN:l<=1073741824)(hA:rx d)(hC:rx N)(hs:y.size<=1073741824)(ht:n.size<=1073741824) :
  Calls prog 12 #[pointer (some ⟨b,0,none⟩),agg #[int i64 6,int i64 d,int i64 N,int i64 m,string y,string n]] f fun e w'=>jo b I w l true e w':=by
 obtain⟨W,HW⟩:=bm (f.alloc (.cells #[int i64 6,int i64 d,int i64 N,int i64 m,string y,string n] 28));obtain⟨v,hB,bd,-⟩:=h.boxed 6 d N m y n W HW.o;obtain⟨o0,o1,o2,o3,X,Y,E⟩:=dx hB;have T:=aj v.Yv;have H:W.cell? ⟨b,3,none⟩=some (slice w.hl.ao w.L.length w.hl.cap):=by rw[ah v.Yv];rfl
 by_cases hL:w.L.length=0
 ·have HF:Xr (cJ W b I w l):=v;rw[hL]at H;clear h v hB;go_enter func12,ntmps12;go_upto_region 1 with fail
  rw[HW.o];go_wp2;go_ret;exact⟨rfl,_,_,HF.o.more,sG.refl _ _⟩
 ·have a7:=h.len.2.2;have P:Xr (∀F,Calls prog 13 #[int i64 d,int i64 w.L.length] F fun e w'=>e=returned (int i64 (fA d w.L.length:Nat))/\w'=F):=fun F=>fJ d w.L.length F hA ⟨by omega,by omega⟩;have aS:=hZ d w.L.length (by omega);obtain⟨k,Hk⟩:=bm (fA d w.L.length);rw[Hk.o]at P aS;obtain⟨⟨a,c,j⟩,hk⟩:∃x,w.L[k]?=some x:=⟨w.L[k],Ub aS⟩
  have HM:Xr (cJ W b I w l):=v;obtain⟨C,D,B,bf⟩:=v.l k a c j hk;obtain⟨gl,V,gz,u⟩:=pt v.ownL (k:=k) (x:=(a,j)) (by rw[UL,hk];rfl);replace u:W.cell? ⟨gl,k,none⟩=some (slice (wa a) j.length j.length):=u;rw[V]at H;have bj:(k:Int)<(w.L.length:Int):=by omega
  have a6:(0:Int)<(w.L.length:Int):=by omega
  have ag:Xr _:=hk;have H8:Xr _:=C;have H9:Xr _:=D;by_cases A:j.length=0
  ·rw[A]at u;clear h v hB hk C D B V;go_enter func12,ntmps12;(go_upto_region 1 with fail);rw[HW.o];(go_upto_region 26 with fail);go_quiet ((go_at_call 13;exact UD (P.o _)));have HF:Xr (cJ (W.drewN nq) b I w l):=HM.o.Yh (bM.drewN nq);go_wp2;go_ret;exact⟨rfl,_,_,HF.o.more,sG.refl _ _⟩
  ·have al:Xr (∀F,Calls prog 13 #[int i64 N,int i64 j.length] F fun e w'=>e=returned (int i64 (fA N j.length:Nat))/\w'=F):=fun F=>fJ N j.length F hC ⟨by omega,by omega⟩;have r:=hZ N j.length (by omega);obtain⟨i,Hi⟩:=bm (fA N j.length);rw[Hi.o]at al r;have ar:jx W a j:=(by have:=v.sep.all (8,k);rw[C]at this;exact this);have ax:jx W c j:=(by have:=v.sep.all (9,k);rw[D]at this;exact this);obtain⟨p,rfl⟩:∃p,a=some p:=by
    cases a with
    | none=>rw[ar.nil rfl]at A;exact absurd rfl A
    | some p=>exact⟨p,rfl⟩
   obtain⟨s,rfl⟩:∃s,c=some s:=by
    cases c with
    | none=>rw[ax.nil rfl]at A;exact absurd rfl A
    | some s=>exact⟨s,rfl⟩
   have J:p≠f.heap.size:=by
    intro e;have:=(v7 (some p) j).lt f (by have:=h.sep.all (8,k);rw[(h.l k _ _ j hk).1]at this;exact this) p (Uq.2 rfl);omega
   have a0:Xr _:=hB;have ac:Xr (my (j.set i (y,n))):=Kg B i hs ht;replace u:W.cell? ⟨gl,k,none⟩=some (slice (some ⟨p,0,none⟩) j.length j.length):=u;have bg:(i:Int)<j.length:=(by omega);have be:(0:Int)<j.length:=(by omega);have a2:Xr _:=J;have G:Xr (∀t,ae [] W t->(t.cell? ⟨f.heap.size,2,none⟩=some (int i64 N)/\t.cell? ⟨f.heap.size,4,none⟩=some (string y)/\t.cell? ⟨f.heap.size,5,none⟩=some (string n)/\f.heap.size<t.heap.size)/\(t.cell? ⟨b,3,none⟩=some (slice (some ⟨gl,0,none⟩) w.L.length w.hl.cap)/\b<t.heap.size)/\t.cell? ⟨gl,k,none⟩=some (slice (some ⟨p,0,none⟩) j.length j.length)/\gl<t.heap.size):=fun t kw=>by
    have q:∀g i,g<W.heap.size->t.cell? ⟨g,i,none⟩=W.cell? ⟨g,i,none⟩:=fun g i hg=>Uw (kw.block g hg (by simp));have z:=kw.size;exact⟨⟨by rw[q _ _ E];exact o2,by rw[q _ _ E];exact X,by rw[q _ _ E];exact Y,by omega⟩,⟨by rw[q _ _ T];exact H,by omega⟩,by rw[q _ _ gz];exact u,by omega⟩
   clear h v hB hk C D B V ar ax J;go_enter func12,ntmps12;(go_upto_region 1 with fail);rw[HW.o];(go_upto_region 26 with fail);go_quiet ((go_at_call 13;exact UD (P.o _)));(go_upto_region 28 with fail);obtain⟨W2,an⟩:=bm (W.drewN nq);rw[an.o];have ad:Xr (ae [] W W2):=(by show ae _ _ _;rw[<-an.o];exact bM.drewN nq);clear o0 o1 o2 o3 X Y E H T u gz;obtain⟨⟨o2,X,Y,E⟩,⟨H,T⟩,u,gz⟩:=G.o W2 ad.o;go_quiet ((go_at_call 13;exact UD (al.o _)));(go_upto_region 29 with fail);obtain⟨Z,ap⟩:=bm (W2.drewN nq);rw[ap.o];have K:Xr (ae [] W Z):=(by show ae _ _ _;rw[<-ap.o];exact ad.o.drewN nq);have ai:Xr (cJ Z b I w l):=HM.o.Yh K.o;have M:Xr (jx Z (some p) j):=(by show jx _ _ _;have:=ai.o.sep.all (8,k);rw[H8.o]at this;exact this);clear o2 X Y E H T u gz;obtain⟨⟨o2,X,Y,E⟩,⟨H,T⟩,u,gz⟩:=G.o Z K.o;obtain⟨⟨d0,d1⟩,df,dz⟩:=M.o.cells r;go_region
   all_goals
    obtain⟨S,Q⟩:=bm (((Z.setCell ⟨p,i*2,none⟩ (string y)).setCell ⟨p,i*2+1,none⟩ (string n)).drew);rw[Q.o];have af:Xr (ae [p] Z S):=(by show ae _ _ _;rw[<-Q.o];exact(M.o.wrote r y n).2.drew);have S4:Xr (pH S (fT I (8,k) (v7 (some p) (j.set i (y,n))))):=by
     show pH _ _;refine ai.o.sep.put _ _ (by rw[H8.o];exact af.o) ?_ (fun q hq=>Us (by rw[H8.o];exact hq));rw[<-Q.o];exact(v7 _ _).ok [] _ _ (M.o.wrote r y n).1 bM.drew (by simp)
    have a3:Xr (fT I (8,k) (v7 (some p) (j.set i (y,n))) (0,0)=sS b 42 w.cells):=cM (by rw[au _ _ (bG (by decide))];exact HM.o.w0);have a4:Xr (fT I (8,k) (v7 (some p) (j.set i (y,n))) (5,0)=cW w.hc (iY (w.L.map (fun a5=>(a5.2.1,a5.2.2))))):=cM (by rw[au _ _ (bG (by decide))];exact HM.o.lw);have U:Xr (fT I (8,k) (v7 (some p) (j.set i (y,n))) (9,k)=v7 (some s) j):=cM (by rw[au _ _ (bG (by decide))];exact H9.o);obtain⟨b4,aT,-⟩:=S4.o.rowAt a3.o (bG (by decide)) a4.o;have O:Xr (jx S (some s) j):=(by show jx _ _ _;have:=S4.o.all (9,k);rw[U.o]at this;exact this);obtain⟨gr,az,rz,rc⟩:=pt aT (k:=k) (x:=(some s,j)) (by rw[UL,ag.o];rfl);replace rc:S.cell? ⟨gr,k,none⟩=some (slice (some ⟨s,0,none⟩) j.length j.length):=rc;have c4:S.cell? ⟨b,4,none⟩=some (slice (some ⟨gr,0,none⟩) w.L.length w.hc.cap):=(by rw[ah b4,<-az];rfl);clear d0 d1 df dz o2 X Y E H T u gz;obtain⟨⟨d0,d1⟩,df,dz⟩:=O.o.cells r;have T:=aj b4;have B4:=af.o.get (K.o.get a0.o (by simp)) (by simp;exact fun e=>a2.o e.symm);obtain⟨-,-,-,-,X,Y,E⟩:=dx B4;clear b4 aT az B4;(go_upto_region 30 with fail);go_region
    all_goals
     obtain⟨W5,R⟩:=bm (((S.setCell ⟨s,i*2,none⟩ (string y)).setCell ⟨s,i*2+1,none⟩ (string n)).drew);rw[R.o];have a1:Xr (ae [s] S W5):=(by show ae _ _ _;rw[<-R.o];exact(O.o.wrote r y n).2.drew);have S5:Xr (pH W5 (fT (fT I (8,k) (v7 (some p) (j.set i (y,n)))) (9,k) (v7 (some s) (j.set i (y,n))))):=by
      show pH _ _;refine S4.o.put _ _ (by rw[U.o];exact a1.o) ?_ (fun q hq=>Us (by rw[U.o];exact hq));rw[<-R.o];exact(v7 _ _).ok [] _ _ (O.o.wrote r y n).1 bM.drew (by simp)
     go_wp2;go_ret;exact⟨rfl,HM.o.wrote ag.o UZ ac.o S5.o⟩
theorem DR{o k:Nat}(h:T.heap[S]?=some (.cells (rY H).toArray 68))(c:o+k<H.length):T.cell? ⟨S,o*2+k*2,none⟩=some (string (aF H (o+k)))/\T.cell? ⟨S,o*2+k*2+1,none⟩=some (string (ak H (o+k))):=by
 obtain⟨a,b⟩:=xN H (o+k) c;rw[Xp]at a b;exact⟨by rw[ah h];simpa using a,by rw[ah h];simpa using b⟩
theorem jx.piece(h:T.heap[S]?=some (.cells (rY H).toArray 68))(o n:Nat)(i:o+n<=H.length):lL T (some ⟨S,o*2,none⟩) ((H.drop o).take n):=by
 intro k g;rw[U6,UX]at g;have e:∀j,j<n->((H.drop o).take n)[j]?=H[o+j]?:=fun j f=>by rw[Wu,Uf f,VQ]
 obtain⟨a,b⟩:=DR h (o:=o) (k:=k) (by omega);have c:aF ((H.drop o).take n) k=aF H (o+k):=by unfold aF;rw[Uc,Uc,e k (by omega)]
 have d:ak ((H.drop o).take n) k=ak H (o+k):=by unfold ak;rw[Uc,Uc,e k (by omega)]
 exact⟨S,o*2,rfl,aj h,by rw[c];exact a,by rw[d];exact b⟩
theorem jx.src{a:Option Nat}(h:jx T a H):lL T (wa a) H:=by
 cases a with
 | none=>rw[h.nil rfl];intro k c;cases c
 | some b =>
  have:=jx.piece (h.Yv b rfl) 0 H.length (by omega);rw[VK,Vk,X3]at this;exact this
theorem my.piece(h:my H)(o n:Nat):my ((H.drop o).take n):=by
 intro j;have a:=h (o+j);unfold aF ak at *;rw[Uc]at *;rw[Wu];split
 ·rw[VQ];exact a
 ·exact⟨by show(0:Nat)<=_;omega,by show(0:Nat)<=_;omega⟩
def Fi(w:World)(x m:Nat)(h:Hd)(lo hi lo2 hi2:Nat)(st:Option Nat)(fs:Fs)(e:Ending)(w':World):Prop :=
 e=returned (bool true)/\ev w' x fs lo hi st/\(∃h',dM w' m fs h' lo2 hi2 st/\∀q,h'.Yv=some q->h.Yv=some q∨w.heap.size<=q)/\ae ([x]++m :: h.Yv.toList) w w'
theorem lL.srcF(h:T.heap[S]?=some (.cells (rY H).toArray 68)):om T (some ⟨S,0,none⟩) H.length H:=by
 refine⟨Ue _,fun k c=>?_⟩;obtain⟨a,b⟩:=DR h (o:=0) (k:=k) (by omega);rw[X3,V3]at a b;exact⟨S,rfl,aj h,by simpa using a,by simpa using b⟩
theorem DQ(f e:Fs)(h:Hd)(K I m g:Nat)(x:Option Nat)(w:World)(hx:ev w L f K I x)(J:dM w v f h m g x)(hb:w.heap[s]?=some (.cells (rY e).toArray 68))(C:∀q,q∈L :: iW K I->q∉v :: (h.Yv.toList++iW m g))(ag:s≠L)(af:s≠v)(ac:h.Yv≠some s)(hl:D+b+l<=e.length)(hN:e.length<=1073741824)(hf:my e) :
  Calls prog 14 #[pointer (some ⟨L,0,none⟩),pointer (some ⟨v,0,none⟩),slice (some ⟨s,0,none⟩) e.length e.length,int i64 D,int i64 b,int i64 l] w fun r p=>Fi w L v h K I m g (na (dR ((e.drop D).take b)) x) (j8 f ((e.drop D).take b)) r p:=by
 have aS:Xr (dM w v f h m g x):=J;have HB:Xr _:=hb;have xz:=hx.anyS.lt;have t:((e.drop D).take b).length=b:=by rw[U6,UX];omega
 have a1:Xr (∀p,ae [] w p->lL p (some ⟨s,0,none⟩) e):=fun p k=>(jx.src (a:=some s) ⟨(fun l=>by cases l),fun q l=>by cases l;exact k.get hb (by simp)⟩)
 have Y:Xr (∀o n,ae [] w o->(b=0∨n=⟨s,D*2,none⟩)->lL o (some n) ((e.drop D).take b)):=fun o n k u=>by
  rcases u with l | l
  ·rw[l];intro j hj;rw[V4]at hj;cases hj
  ·rw[l];exact jx.piece (k.get hb (by simp)) D b (by omega)
 have ap:Xr (Calls prog 30 #[slice (some ⟨s,0,none⟩) e.length e.length] w _):=kt _ e.length e w (a1.o w (ae.refl _ _)) hN;have ar:Xr (∀o c n,ae [] w o->(b=0∨n=⟨s,D*2,none⟩)->Calls prog 30 #[slice (some n) b c] o fun l p=>l=returned (slice (some ⟨o.heap.size,0,none⟩) b b)/\p.heap[o.heap.size]?=some (.cells (rY ((e.drop D).take b)).toArray 68)/\ae [] o p):=fun o c n k u=>by
  have:=kt (some n) c ((e.drop D).take b) o (Y.o o n k u) (by rw[t];omega);rw[t]at this;exact this
 have a5:Xr (∀E c n,ae [] w E->(b=0∨n=⟨s,D*2,none⟩)->Calls prog 31 #[pointer (some ⟨L,0,none⟩),slice (some n) b c] E fun l p=>l=returned (int i64 (dR ((e.drop D).take b)))/\ev p L (j8 f ((e.drop D).take b)) K I (na (dR ((e.drop D).take b)) x)/\ae [L] E p):=fun E c n k u=>by
  have:=El L f ((e.drop D).take b) (some n) c K I x E (hx.Yh k) (Y.o E n k u) (hf.piece D b);rw[t]at this;exact this
 have az:Xr (∀y B2,dM y v f h m g x->y.heap[B2]?=some (.cells (rY ((e.drop D).take b)).toArray 68)->Calls prog 32 #[pointer (some ⟨v,0,none⟩),slice (some ⟨B2,0,none⟩) b b] y fun l p=>l=returned (int i64 (dR ((e.drop D).take b)))/\∃G,dM p v (j8 f ((e.drop D).take b)) G m g (na (dR ((e.drop D).take b)) x)/\ae (v :: h.Yv.toList) y p/\∀q,G.Yv=some q->h.Yv=some q∨y.heap.size<=q):=fun y B2 hr B=>by
  have:=Dj v f ((e.drop D).take b) h m g x (some ⟨B2,0,none⟩) ((e.drop D).take b).length y hr (lL.srcF B) (fun l=>by cases l) (fun n l=>by cases l;exact⟨_,rfl⟩) (fun j _=>hf.piece D b j);rw[t]at this;exact this
 have X:Xr (v<w.heap.size/\∀q,h.Yv=some q->q<w.heap.size):=by
  obtain⟨on,p2,p3,p4,hr⟩:=J.anyS;exact⟨aj hr.d,fun q i=>hr.YF.lt i⟩
 generalize j8 f ((e.drop D).take b)=F at *;generalize na (dR ((e.drop D).take b)) x=M at *;generalize dR ((e.drop D).take b)=r at *;generalize (e.drop D).take b=P at *;have be:(D:Int)+(b:Int)<=e.length:=by omega
 have bf:(D:Int)+(b:Int)+(l:Int)<=e.length:=by omega
 have HD:Xr (s≠L/\s≠v/\h.Yv≠some s):=⟨ag,af,ac⟩;have V:Xr _:=C;clear hx J hb hf C ag af ac t;have H:(b=0/\l=0/\e.length=D)∨(b=0/\l=0/\¬e.length=D)∨(¬b+l=0/\¬e.length=D):=by omega
 rcases H with ⟨rfl,rfl,rfl⟩ | ⟨rfl,rfl,a7⟩ | ⟨bd,a7⟩
 all_goals
  go_enter func14,ntmps14;go_upto_region 2 with (go_at_call 30;refine Ug ap.o ?_;rintro e1 o ⟨rfl,Z,k1⟩)
  go_upto_region 3 with (go_at_call 30;refine Ug (ar.o o _ _ k1 (by first | exact Us trivial | exact Us rfl | exact Uo rfl)) ?_;rintro e2 E ⟨rfl,B,k2⟩)
  have A:Xr _:=k1.trans k2;have an:Xr _:=(k2.get Z (by simp));have ao:Xr _:=B;have a6:Xr (w.heap.size<=o.heap.size):=k1.size;clear Z B k1 k2;go_upto_region 4 with (go_at_call 31;refine Ug (a5.o E _ _ A.o (by first | exact Us trivial | exact Us rfl | exact Uo rfl)) ?_;rintro e3 y ⟨rfl,al,N⟩)
  have aT:Xr (dM y v f h m g x):=(aS.o.Yh A.o).Yu N (fun q i J=>V.o L UN (by rw[<-Uq.1 J];exact i));have Q:Xr _:=(N.get an.o (by simp;omega));have S:Xr _:=(N.get ao.o (by have:=a6.o;simp;omega));have T:Xr _:=(N.get (A.o.get HB.o (by simp)) (by simp;exact HD.o.1));have a3:Xr (ev y L F K I M):=al;have W:Xr _:=((A.o.mono (S':=[L]) (by simp)).trans N);clear al N;go_upto_region 5 with (go_at_call 32;refine Ug (az.o y _ aT.o S.o) ?_;rintro e4 O ⟨rfl,h4,ai,k4,b4⟩)
  have a0:Xr (∃G,dM O v F G m g M/\∀q,G.Yv=some q->h.Yv=some q∨w.heap.size<=q):=⟨h4,ai,fun q i=>(b4 q i).elim Us (fun z=>Uo (Un W.o.size z))⟩;have a4:Xr (ev O L F K I M):=a3.o.Yu k4 (fun q i J=>V.o q i (by rcases UH.1 J with l | l;rw[l];exact UN;exact UM _ (Vc _ l)));have R:Xr _:=(k4.get Q.o (by intro i;rcases UH.1 i with l | i;have:=X.o.1;omega;have:=X.o.2 _ (aR i);omega));have U:Xr _:=(k4.get T.o (by intro i;rcases UH.1 i with l | i;exact HD.o.2.1 l;exact HD.o.2.2 (aR i)));have ax:Xr (ae ([L]++v :: h.Yv.toList) w O):=(W.o.mono (S':=[L]++v :: h.Yv.toList) (fun q i _=>Vc _ i)).trans (k4.mono (fun q i _=>Vu _ i));have a2:Xr _:=(oO (some ⟨s,0,none⟩) (some ⟨w.heap.size,0,none⟩) e.length e.length e O (jx.src (a:=some s) ⟨(fun l=>by cases l),fun q l=>by cases l;exact U.o⟩) (jx.src (a:=some w.heap.size) ⟨(fun l=>by cases l),fun q l=>by cases l;exact R.o⟩) (by omega));clear ai k4 b4;go_wp2_with (go_at_call 27;refine Ug a2.o ?_;rintro e5 w5 ⟨rfl,n5,bg⟩);go_ret;have k5:ae [] O (O.drewN n5):=bM.drewN n5;obtain⟨G,bc,ba⟩:=a0.o;exact⟨rfl,a4.o.Yh k5,⟨G,bc.Yh k5,ba⟩,ax.o.trans (k5.mono (by simp))⟩
theorem F7(hx:ev f L z3 s D y1)(x:dM f v z3 z0 b l y1)(p:∀q,q∈L :: iW s D->q∉v :: (z0.Yv.toList++iW b l)) :
  Calls prog 14 #[pointer (some ⟨L,0,none⟩),pointer (some ⟨v,0,none⟩),slice none 0 0,int i64 0,int i64 0,int i64 0] f fun r a=>Fi f L v z0 s D b l (na (dR []) y1) (j8 z3 []) r a:=by
 have Q:Xr (dM f v z3 z0 b l y1):=x;have xz:=hx.anyS.lt;have i:Xr (∀(a:World) ao,lL a ao []):=fun a ao j Z=>by cases Z
 have G:my []:=fun j=>⟨by show(0:Nat)<=_;omega,by show(0:Nat)<=_;omega⟩
 have HC:Xr (∀n,Calls prog 30 #[slice none 0 0] n fun e a=>e=returned (slice (some ⟨n.heap.size,0,none⟩) 0 0)/\a.heap[n.heap.size]?=some (.cells (rY []).toArray 68)/\ae [] n a):=fun n=>kt none 0 [] n (i.o _ _) (by simp);have W:Xr (∀A,ae [] f A->Calls prog 31 #[pointer (some ⟨L,0,none⟩),slice none 0 0] A fun e a=>e=returned (int i64 (dR []))/\ev a L (j8 z3 []) s D (na (dR []) y1)/\ae [L] A a):=fun A k=>El L z3 [] none 0 s D y1 A (hx.Yh k) (i.o _ _) G;have P:Xr (∀g J,dM g v z3 z0 b l y1->g.heap[J]?=some (.cells (rY []).toArray 68)->Calls prog 32 #[pointer (some ⟨v,0,none⟩),slice (some ⟨J,0,none⟩) 0 0] g fun e a=>e=returned (int i64 (dR []))/\∃w,dM a v (j8 z3 []) w b l (na (dR []) y1)/\ae (v :: z0.Yv.toList) g a/\∀q,w.Yv=some q->z0.Yv=some q∨g.heap.size<=q):=fun g J K m=>by
  exact Dj v z3 [] z0 b l y1 (some ⟨J,0,none⟩) 0 g K (lL.srcF m) (fun e=>by cases e) (fun ad e=>by cases e;exact⟨_,rfl⟩) (fun j Z=>by cases Z)
 have ag:Xr (v<f.heap.size/\∀q,z0.Yv=some q->q<f.heap.size):=by
  obtain⟨on,p2,p3,p4,K⟩:=x.anyS;exact⟨aj K.d,fun q c=>K.YF.lt c⟩
 generalize j8 z3 []=u at *;generalize na (dR []) y1=y at *;generalize dR []=r at *;have E:Xr _:=p;clear hx x p G;go_enter func14,ntmps14;go_upto_region 2 with (go_at_call 30;refine Ug (HC.o f) ?_;rintro e1 n ⟨rfl,Y,k1⟩)
 go_upto_region 3 with (go_at_call 30;refine Ug (HC.o n) ?_;rintro e2 A ⟨rfl,m,k2⟩)
 have t:Xr _:=k1.trans k2;have N:Xr _:=m;have X:Xr (f.heap.size<=n.heap.size):=k1.size;clear Y m k1 k2;go_upto_region 4 with (go_at_call 31;refine Ug (W.o A t.o) ?_;rintro e3 g ⟨rfl,I,M⟩)
 have R:Xr (dM g v z3 z0 b l y1):=(Q.o.Yh t.o).Yu M (fun q c x=>E.o L UN (by rw[<-Uq.1 x];exact c));have C:Xr _:=(M.get N.o (by have:=X.o;simp;omega));have U:Xr (ev g L u s D y):=I;have F:Xr _:=((t.o.mono (S':=[L]) (by simp)).trans M);clear I M;go_upto_region 5 with (go_at_call 32;refine Ug (P.o g _ R.o C.o) ?_;rintro e4 B ⟨rfl,h4,H,k4,b4⟩)
 have S:Xr (∃w,dM B v u w b l y/\∀q,w.Yv=some q->z0.Yv=some q∨f.heap.size<=q):=⟨h4,H,fun q c=>(b4 q c).elim Us (fun z=>Uo (Un F.o.size z))⟩;have V:Xr (ev B L u s D y):=U.o.Yu k4 (fun q c x=>E.o q c (by rcases UH.1 x with e | e;rw[e];exact UN;exact UM _ (Vc _ e)));have O:Xr (ae ([L]++v :: z0.Yv.toList) f B):=(F.o.mono (S':=[L]++v :: z0.Yv.toList) (fun q c _=>Vc _ c)).trans (k4.mono (fun q c _=>Vu _ c));have T:Xr (Calls prog 27 #[slice none 0 0,slice (some ⟨f.heap.size,0,none⟩) 0 0] B _):=oO none (some ⟨f.heap.size,0,none⟩) 0 0 [] B (i.o _ _) (i.o _ _) (by simp);clear H k4 b4;go_wp2_with (go_at_call 27;refine Ug T.o ?_;rintro e5 w5 ⟨rfl,n5,ai⟩);go_ret;have k5:ae [] B (B.drewN n5):=bM.drewN n5;obtain⟨w,af,ac⟩:=S.o;exact⟨rfl,V.o.Yh k5,⟨w,af.Yh k5,ac⟩,O.o.trans (k5.mono (by simp))⟩
def Rp(w:World)(x m:Nat)(h:Hd)(lo hi lo2 hi2:Nat)(fs:Fs)(e:Ending)(w':World):Prop :=
 e=returned (bool true)/\(∃st lo1 hi1 lo3 hi3,ev w' x fs lo1 hi1 st/\oU w.heap.size lo hi lo1 hi1/\dM w' m fs h lo3 hi3 st/\oU w.heap.size lo2 hi2 lo3 hi3/\(∀q,q∈x :: iW lo1 hi1->q∉m :: (h.Yv.toList++iW lo3 hi3)))/\ae ([x]++m :: h.Yv.toList) w w'
theorem CH(hx:ev f L z3 s D y1)(g:dM f v z3 z0 b l y1)(ap:∀j,j<z3.length->(ak z3 j).size<=1024)(x:∀q,q∈L :: iW s D->q∉v :: (z0.Yv.toList++iW b l)) :
  Calls prog 17 #[pointer (some ⟨L,0,none⟩),pointer (some ⟨v,0,none⟩),string n] f fun e H=>Rp f L v z0 s D b l z3 e H:=by
 have ao:z3.length<=4:=by obtain⟨on,p2,p3,p4,r⟩:=g.anyS;exact r.le
 obtain⟨⟨r,W,V,c⟩,q,i,h1,h2⟩:=MQ L v z3 z0 s D b l y1 n f hx ao ap;have H1:Xr (Calls prog 37 #[pointer (some ⟨L,0,none⟩),string n] f fun e H=>e=returned (tuple #[agg #[int i64 r,string W,int i64 V,int i64 c],int i64 q])/\(∃d a,ev H L z3 d a i/\oU f.heap.size s D d a)/\ae [L] f H):=h1;have H2:Xr (∀I,dM I v z3 z0 b l y1->Calls prog 38 #[pointer (some ⟨v,0,none⟩),string n] I fun e H=>e=returned (tuple #[agg #[int i64 r,string W,int i64 V,int i64 c],int i64 q])/\(∃d a,dM H v z3 z0 d a i/\oU I.heap.size b l d a)/\ae [v] I H):=h2;have ad:Xr (dM f v z3 z0 b l y1):=g;have y:Xr _:=x;have T:Xr ((∀q,q∈L :: iW s D->q<f.heap.size)/\∀q,q∈v :: (z0.Yv.toList++iW b l)->q<f.heap.size):=⟨hx.lt,g.lt⟩;clear h1 h2 hx g x;go_enter func17,ntmps17;go_upto_region 2 with (go_at_call 37;refine Ug H1.o ?_;rintro e1 S ⟨rfl,⟨d,a,G,n1⟩,k1⟩)
 obtain⟨u,C⟩:=bm (S.alloc (.cells #[int i64 r,string W,int i64 V,int i64 c] 87));have A:Xr _:=fg C.o;have X:Xr _:=fE C.o;have al:Xr (ev u L z3 d a i):=G.Yh A.o;have O:Xr (oU f.heap.size s D d a):=n1;have Z:Xr (a<=S.heap.size):=G.z;have N:Xr (ae [L] f u):=k1.trans (A.o.mono (by simp));have ag:Xr (dM u v z3 z0 b l y1):=ad.o.Yu N.o (fun q k g=>y.o L UN (by rw[<-Uq.1 g];exact k));have P:Xr (S.heap.size<=u.heap.size):=A.o.size;have F:Xr (f.heap.size<=S.heap.size):=k1.size;rw[C.o];clear G k1 n1;go_upto_region 3 with (go_at_call 38;refine Ug (H2.o u ag.o) ?_;rintro t I ⟨rfl,⟨p,m,Q,n3⟩,k2⟩)
 obtain⟨U,E⟩:=bm (I.alloc (.cells #[int i64 r,string W,int i64 V,int i64 c] 87));have M:Xr _:=fg E.o;have J:=fE E.o;have B:Xr (ae [v] u U):=k2.trans (M.o.mono (by simp));have K:Xr (∀q,q∈L :: iW d a->q∈L :: iW s D∨(f.heap.size<=q/\q<S.heap.size)):=fun q k=>by
  rcases UH.1 k with e | e
  ·exact Us (by rw[e];exact UN)
  ·rcases O.o.mem e with t | t
   ·exact Us (UM _ t)
   ·exact Uo ⟨t,Ul (oC.1 e).2 Z.o⟩
 have an:Xr (ev U L z3 d a i):=al.o.Yu B.o (fun q k g=>by
  rw[Uq.1 g]at k;rcases K.o v k with e | e
  ·exact y.o v e UN
  ·have:=T.o.2 v UN;omega)
 have ai:Xr (dM U v z3 z0 p m i):=Q.Yh M.o;have af:Xr (oU f.heap.size b l p m):=by
  rcases n3 with e | e
  ·exact Us e
  ·exact Uo (Un (Un F.o P.o) e)
 have Y:Xr (∀q,q∈L :: iW d a->q∉v :: (z0.Yv.toList++iW p m)):=fun q k g=>by
  have R:∀q,q∈v :: (z0.Yv.toList++iW p m)->q∈v :: (z0.Yv.toList++iW b l)∨u.heap.size<=q:=fun q g=>by
   rcases UH.1 g with e | e
   ·exact Us (by rw[e];exact UN)
   ·rcases UG.1 e with e | e
    ·exact Us (UM _ (Vc _ e))
    ·rcases oU.mem (z:=u.heap.size) (lo:=b) (hi:=l) n3 e with e | e
     ·exact Us (UM _ (Vu _ e))
     ·exact Uo e
  have z1:=F.o;have z2:=P.o;rcases K.o q k with e | e
  ·rcases R q g with t | t
   ·exact y.o q e t
   ·have:=T.o.1 q e;omega
  ·rcases R q g with t | t
   ·have:=T.o.2 q t;omega
   ·omega
 have w:=B.o.get X.o (by have:=T.o.2 v UN;have:=F.o;simp;omega);have ac:Xr (ae ([L]++v :: z0.Yv.toList) f U):=(N.o.mono (fun q k _=>Vc _ k)).trans (B.o.mono (fun q k _=>Vu _ (by rw[Uq.1 k];exact UN)));rw[E.o];clear Q k2 n3;obtain⟨⟨a0,a1,a2,a3⟩,-,az⟩:=nQ w;obtain⟨⟨b0,b1,b2,b3⟩,-,bz⟩:=nQ J;clear w J;go_wp2;go_ret;exact⟨rfl,⟨i,d,a,p,m,an.o,O.o,ai.o,af.o,Y.o⟩,ac.o⟩
theorem AG{L:Xv}(o:aB T t (mh S L)){k x:Nat}(c:L[k]?=some x):∃g,t.ao=some ⟨g,0,none⟩/\g<T.heap.size/\T.cell? ⟨g,k,none⟩=some (Qw x):=by
 have i:=(Uk.1 c).1;rcases o.Ys with ⟨_,b,_⟩ | ⟨g,d,a,e,f,-⟩
 ·have b:L.length=0:=b;omega
 ·exact⟨g,a,aj e,o.cell a k (Qw x) (by show(L.map Qw)[k]?=_;rw[UL,c];rfl)⟩
theorem MV(h:du ya y9=0):y9.size<=1024:=by
 unfold du at h;split at h
 ·cases h
 ·split at h
  ·cases h
  ·omega
theorem Si(h:CS H)(n d:Xs):CS (fM H n d).2:=by
 unfold fM;split
 ·exact h
 ·next c =>
  have b:=MV (Decidable.not_not.1 c);split
  ·intro j a;rw[UZ]at a;have:=h j a;unfold ak at *;rw[Uc]at *;rw[Ve];split
   ·split
    ·exact b
    ·show(0:Nat)<=_;omega
   ·exact this
  ·split
   ·exact h
   ·intro j a;rw[Uh]at a;replace a:j<H.length+1:=a;unfold ak;rw[Uc];by_cases e:j<H.length
    ·have:=h j e;unfold ak at this;rw[Uc]at this;rw[Uv e];exact this
    ·rw[Ur (by omega),show j-H.length=0 by omega];exact b
theorem NE(h:CS H)(a:Fs):CS (j8 H a):=by
 unfold j8;split
 ·next e=>exact(Qh e).2
 ·exact h
theorem cJ.both{A x p m w o:Nat}(a:cJ T S u i g)(B:i.V[M]?=some (z4,z6,H))(I:u (6,M)=RT z4 H y6 y7 zt)(J:u (7,M)=RQ z6 t H A x zt)(O:ev y3 z4 y0 p m y2)(N:dM y3 z6 y0 y5 w o y2)(U:oU T.heap.size y6 y7 p m)(W:oU T.heap.size A x w o)(K:∀q,y5.Yv=some q->t.Yv=some q∨T.heap.size<=q)(L:∀q,q∈z4 :: iW p m->q∉z6 :: (y5.Yv.toList++iW w o))(k:ae ([z4]++z6 :: t.Yv.toList) T y3)(C:CS y0):∃D E,cJ y3 S D E (g+1)/\sG u i D E:=by
 have s:=a.sep.put2 (6,M) (7,M) (bG (by decide)) (RT z4 y0 p m y2) (RQ z6 y5 y0 w o y2) (by
  rw[I,J];refine k.mono (fun q z _=>?_);rcases UG.1 z with e | e
  ·exact Vc _ (by rw[Uq.1 e];exact UN)
  ·refine Vu _ ?_;rcases UH.1 e with e | e
   ·rw[e];exact UN
   ·exact UM _ (Vc _ e)) O N (fun q z=>by
  rw[I];rcases UH.1 z with e | e
  ·exact Us (by rw[e];exact UN)
  ·rcases U.mem e with b | b
   ·exact Us (UM _ b)
   ·exact Uo b) (fun q z=>by
  rw[J];rcases UH.1 z with e | e
  ·exact Us (by rw[e];exact UN)
  ·rcases UG.1 e with e | e
   ·rcases K q (aR e) with b | b
    ·exact Us (UM _ (Vc _ (by rw[b];simp)))
    ·exact Uo b
   ·rcases W.mem e with b | b
    ·exact Us (UM _ (Vu _ b))
    ·exact Uo b) L
 have F:∀f:Nat×Nat×Fs->Nat,f (z4,z6,y0)=f (z4,z6,H)->(i.V.set M (z4,z6,y0)).map f=i.V.map f:=fun f C=>by
  rw[Wo,C];apply VZ;intro j;rw[Ve];by_cases G:M=j
  ·subst G;have:=(Uk.1 B).1;rw[Uf rfl,UL,B];simp[this]
  ·rw[Ud G]
 refine⟨_,{ i with V:=i.V.set M (z4,z6,y0) },⟨s,?_,?_,?_,?_,?_,?_,?_,?_,?_,?_,?_⟩,?_⟩
 ·rw[au _ _ (bG (by decide)),au _ _ (bG (by decide)),a.w0];unfold Mc.cells;rw[UZ]
 ·rw[au _ _ (bG (by decide)),au _ _ (bG (by decide)),F _ rfl];exact a.x
 ·rw[au _ _ (bG (by decide)),au _ _ (bG (by decide)),F _ rfl];exact a.m
 ·simp only[fT];exact a.r
 ·simp only[fT];exact a.ls
 ·simp only[fT];exact a.lw
 ·intro j y n d c;replace c:(i.V.set M (z4,z6,y0))[j]?=some (y,n,d):=c;rw[Ve]at c;rw[au _ _ (bG (by decide))];by_cases e:M=j
  ·subst e;rw[Uf rfl,Uf (Uk.1 B).1]at c;cases c
   rw[bV,bV];exact⟨⟨_,_,_,_,_,_,rfl,rfl⟩,C⟩
  ·rw[Ud e]at c;rw[au _ _ (vm (Ne.symm e)),au _ _ (vm (Ne.symm e)),au _ _ (bG (by decide))];exact a.v j y n d c
 ·intro j y n d c;simp only[fT];exact a.more.l j y n d c
 ·exact a.fit
 ·obtain⟨P,Q,R⟩:=a.more.len;exact⟨by show(i.V.set M (z4,z6,y0)).length<=_;rw[UZ];exact P,Q,R⟩
 ·exact a.rng
 ·exact⟨fun j M c=>by(repeat rw[qe (by decide) c]),rfl,rfl⟩
theorem jh(h:cJ f b I w l)(j:∀W,cJ W b I w l->Calls prog 12 #[pointer (some ⟨b,0,none⟩),agg #[int i64 y4,int i64 d,int i64 N,int i64 m,string y,string n]] W fun e a=>jo b I w l true e a) :
  Calls prog 10 #[pointer (some ⟨b,0,none⟩),agg #[int i64 y4,int i64 d,int i64 N,int i64 m,string y,string n]] f fun e a=>jo b I w l true e a:=by
 obtain⟨W,c⟩:=bm (f.alloc (.cells #[int i64 y4,int i64 d,int i64 N,int i64 m,string y,string n] 28));obtain⟨i,g,q,-⟩:=h.boxed y4 d N m y n W c.o;obtain⟨r,s,t,u,v,x,z⟩:=dx g;have k:Xr _:=j W i;clear h i g j;go_enter func10,ntmps10;go_upto_region 1 with fail
 rw[c.o];go_wp2_with (go_at_call 12;refine Ug k.o ?_;rintro e A ⟨rfl,p⟩);go_ret;exact⟨rfl,p⟩
structure iw(W:World)(b B:Nat)(I:Nat×Nat->It)(M:Mc)(N:Nat)(k A C D:Int)(s t:Xs):Prop where
 m:cJ W b I M N
 o:W.heap[B]?=some (.cells #[int i64 k,int i64 A,int i64 C,int i64 D,string s,string t] 28)
theorem iw.Yh{k A C D:Int}(a:iw T S g u i M k A C D ya y9)(h:ae [] T y3):iw y3 S g u i M k A C D ya y9:=⟨a.m.Yh h,h.get a.o (by simp)⟩
theorem LG(h:cJ f b I w l)(j:(8<=y4/\y4<=14)∨19<=y4)(s:w.V.length=0) :
  Calls prog 10 #[pointer (some ⟨b,0,none⟩),agg #[int i64 y4,int i64 d,int i64 N,int i64 m,string y,string n]] f fun e v=>jo b I w l true e v:=by
 obtain⟨W,g⟩:=bm (f.alloc (.cells #[int i64 y4,int i64 d,int i64 N,int i64 m,string y,string n] 28));obtain⟨c,i,t,-⟩:=h.boxed y4 d N m y n W g.o;obtain⟨x,z,A,B,C,D,E⟩:=dx i;have p:Xr _:=l9 b l I w y4 d N m y n W c j;have q:Xr (cJ W b I w l):=c;clear h c i j;go_enter func10,ntmps10;go_upto_region 1 with fail
 rw[g.o];go_upto_region 2 with (go_at_call 12;refine Ug p.o ?_;rintro e k ⟨rfl,u⟩)
 have a:Xr (cJ k b I w l):=q.o.Yh u;have r:k.cell? ⟨b,0,none⟩=some (slice w.hx.ao w.V.length w.hx.cap):=by rw[ah a.o.Yv];rfl
 rw[s]at r;go_wp2;go_ret;exact⟨rfl,_,_,a.o.more,sG.refl _ _⟩
theorem IJ(b:∀q,q∈g :: iW z4 z6->q∉M :: (t.Yv.toList++iW y6 y7))(f:∀q,q∈g :: iW z4 z6->q<S)(d:∀q,y5.Yv=some q->t.Yv=some q∨S<=q):∀q,q∈g :: iW z4 z6->q∉M :: (y5.Yv.toList++iW y6 y7):=fun q a i=>by
 rcases UH.1 i with e | e
 ·exact b q a (by rw[e];exact UN)
 ·rcases UG.1 e with e | e
  ·rcases d q (aR e) with c | c
   ·exact b q a (UM _ (Vc _ (by rw[c];simp)))
   ·have:=f q a;omega
  ·exact b q a (UM _ (Vu _ e))
structure oV(w:World)(I:Nat×Nat->It)(M:Mc)(i x m:Nat)(fs:Fs)(h:Hd)(lo hi lo2 hi2:Nat)(st:Option Nat):Prop where
 v:M.V[i]?=some (x,m,fs)
 i6:I (6,i)=RT x fs lo hi st
 i7:I (7,i)=RQ m h fs lo2 hi2 st
 ok:CS fs
 p:ev w x fs lo hi st
 d:dM w m fs h lo2 hi2 st
 far:∀q,q∈x :: iW lo hi->q∉m :: (h.Yv.toList++iW lo2 hi2)
theorem oV.le(a:oV T u i S g M H t z4 z6 y6 y7 zt):H.length<=4:=by
 obtain⟨b,c,e,f,r⟩:=a.d.anyS;exact r.le
theorem oV.st(a:oV T u i S g M H t z4 z6 y6 y7 zt)(k:Nat)(e:zt=some k):k<H.length/\((gj H k).1==0)=true:=by
 subst e;exact a.p.s.1
theorem oV.Yh(a:oV T u i S g M H t z4 z6 y6 y7 zt)(k:ae [] T y3):oV y3 u i S g M H t z4 z6 y6 y7 zt:={ a with p:=a.p.Yh k,d:=a.d.Yh k }
theorem cJ.ver(a:cJ T S u i g)(f:M<i.V.length) :
  ∃x m j h r f c b s d e,oV T u i M x m j h r f c b s/\(i.hx.ao=some ⟨d,0,none⟩/\d<T.heap.size/\T.cell? ⟨d,M,none⟩=some (pointer (some ⟨x,0,none⟩)))/\(i.hm.ao=some ⟨e,0,none⟩/\e<T.heap.size/\T.cell? ⟨e,M,none⟩=some (pointer (some ⟨m,0,none⟩))):=by
 obtain⟨⟨x,m,j⟩,l⟩:∃y,i.V[M]?=some y:=⟨i.V[M],Ub f⟩
 obtain⟨⟨s,h,r,f,c,b,n,o⟩,p⟩:=a.v M x m j l;obtain⟨d,B,F,z⟩:=AG a.ownX (k:=M) (x:=x) (by rw[UL,l];rfl);obtain⟨e,C,G,A⟩:=AG a.ownM (k:=M) (x:=m) (by rw[UL,l];rfl);have t:=a.sep.all (6,M);have w:=a.sep.all (7,M);rw[n]at t;rw[o]at w;exact⟨x,m,j,h,r,f,c,b,s,d,e,⟨l,n,o,p,t,w,fun q E D=>a.sep.far (6,M) (7,M) (bG (by decide)) q (by rw[n];exact E) (by rw[o];exact D)⟩,⟨B,F,z⟩,C,G,A⟩
theorem So(h:cJ f b I w l)(hV:w.V.length≠0)(hA:rx d)(hN:l<=1073741824) :
  Calls prog 10 #[pointer (some ⟨b,0,none⟩),agg #[int i64 10,int i64 d,int i64 N,int i64 m,string y,string n]] f fun e J=>jo b I w l true e J:=by
 obtain⟨W,L⟩:=bm (f.alloc (.cells #[int i64 10,int i64 d,int i64 N,int i64 m,string y,string n] 28));obtain⟨F,E,af,-⟩:=h.boxed 10 d N m y n W L.o;obtain⟨t,u,Q,R,S,T,z⟩:=dx E;have U:Xr _:=(l9 b l I w 10 d N m y n W F (by omega));have X:Xr (iw W b f.heap.size I w l 10 d N m y n):=⟨F,E⟩;have ad:=h.len.1;have k:Xr (∀B,Calls prog 13 #[int i64 d,int i64 w.V.length] B fun e J=>e=returned (int i64 (fA d w.V.length:Nat))/\J=B):=fun B=>fJ d w.V.length B hA ⟨by omega,by omega⟩;have s:=hZ d w.V.length (by omega);obtain⟨i,Y⟩:=bm (fA d w.V.length);rw[Y.o]at k s;have ac:((w.V.length:Int)==0)=false:=Uz.2 (by omega);have ag:(i:Int)<(w.V.length:Int):=by omega
 clear h F E;go_enter func10,ntmps10;go_upto_region 1 with fail
 rw[L.o];go_upto_region 2 with (go_at_call 12;refine Ug U.o ?_;rintro e K ⟨rfl,P⟩)
 have g:Xr (iw K b f.heap.size I w l 10 d N m y n):=X.o.Yh P;clear t u Q R S T z P;obtain⟨t,u,-⟩:=dx g.o.o;have z:=aj g.o.o;have D:K.cell? ⟨b,0,none⟩=some (slice w.hx.ao w.V.length w.hx.cap):=by rw[ah g.o.m.Yv];rfl
 go_upto_region 4 with fail
 go_quiet ((go_at_call 13;exact UD (k.o _)));go_upto_region 5 with fail
 obtain⟨A,r⟩:=bm (K.drewN nq);rw[r.o];have c:Xr (iw A b f.heap.size I w l 10 d N m y n):=g.o.Yh (by rw[<-r.o];exact bM.drewN nq);clear t u z D;obtain⟨t,u,Q,R,S,T,z⟩:=dx c.o.o;obtain⟨x,ai,fs,hd,lo,hi,H,G,st,g1,g2,a,⟨M,z1,d1⟩,O,z2,d2⟩:=c.o.m.ver s;have D:A.cell? ⟨b,0,none⟩=some (slice w.hx.ao w.V.length w.hx.cap):=by rw[ah c.o.m.Yv];rfl
 have Z:A.cell? ⟨b,1,none⟩=some (slice w.hm.ao w.V.length w.hm.cap):=by rw[ah c.o.m.Yv];rfl
 rw[M]at D;rw[O]at Z;have C:Xr _:=CH x ai fs hd lo hi H G st y A a.p a.d a.ok a.far;have j:Xr _:=a;clear a M O;go_wp2_with (go_at_call 17;refine Ug C.o ?_;rintro e w3 ⟨rfl,⟨al,l1,u1,l3,u3,q1,q2,q3,q4,q5⟩,q6⟩);go_ret;exact⟨rfl,c.o.m.both j.o.v j.o.i6 j.o.i7 q1 q3 q2 q4 (fun q hq=>Us hq) q5 q6 j.o.ok⟩
theorem Tf(h:cJ f b I w l)(hV:w.V.length≠0)(hA:rx d)(hN:l<=1073741824)(hs:y.size<=1073741824)(ht:n.size<=1073741824) :
  Calls prog 10 #[pointer (some ⟨b,0,none⟩),agg #[int i64 9,int i64 d,int i64 N,int i64 m,string y,string n]] f fun e w'=>jo b I w l true e w':=by
 obtain⟨W,HW⟩:=bm (f.alloc (.cells #[int i64 9,int i64 d,int i64 N,int i64 m,string y,string n] 28));obtain⟨hM,hB,az,-⟩:=h.boxed 9 d N m y n W HW.o;obtain⟨P,Q,o2,o3,U,X,D⟩:=dx hB;have HL:Xr _:=(l9 b l I w 9 d N m y n W hM (by omega));have HS:Xr (iw W b f.heap.size I w l 9 d N m y n):=⟨hM,hB⟩;have ax:=h.len.1;have H:Xr (∀wx,Calls prog 13 #[int i64 d,int i64 w.V.length] wx fun e w'=>e=returned (int i64 (fA d w.V.length:Nat))/\w'=wx):=fun wx=>fJ d w.V.length wx hA ⟨by omega,by omega⟩;have L:=hZ d w.V.length (by omega);obtain⟨i,Hi⟩:=bm (fA d w.V.length);rw[Hi.o]at H L;have ar:((w.V.length:Int)==0)=false:=Uz.2 (by omega);have aS:(i:Int)<(w.V.length:Int):=by omega
 have ad:Xr (cJ f b I w l):=h;clear h hM hB;go_enter func10,ntmps10;go_upto_region 1 with fail
 rw[HW.o];go_upto_region 2 with (go_at_call 12;refine Ug HL.o ?_;rintro e w1 ⟨rfl,k1⟩)
 have k:Xr (iw w1 b f.heap.size I w l 9 d N m y n):=HS.o.Yh k1;clear P Q o2 o3 U X D k1;obtain⟨P,Q,-⟩:=dx k.o.o;have D:=aj k.o.o;have T:w1.cell? ⟨b,0,none⟩=some (slice w.hx.ao w.V.length w.hx.cap):=by rw[ah k.o.m.Yv];rfl
 go_upto_region 4 with fail
 go_quiet ((go_at_call 13;exact UD (H.o _)));go_upto_region 5 with fail
 obtain⟨S,K⟩:=bm (w1.drewN nq);rw[K.o];have c:Xr (iw S b f.heap.size I w l 9 d N m y n):=k.o.Yh (by rw[<-K.o];exact bM.drewN nq);clear P Q D T;obtain⟨P,Q,o2,o3,U,X,D⟩:=dx c.o.o;obtain⟨x,C,A,B,lo,hi,t,s,R,g1,g2,j,⟨e1,z1,d1⟩,e2,z2,d2⟩:=c.o.m.ver L;have T:S.cell? ⟨b,0,none⟩=some (slice w.hx.ao w.V.length w.hx.cap):=by rw[ah c.o.m.Yv];rfl
 have c1:S.cell? ⟨b,1,none⟩=some (slice w.hm.ao w.V.length w.hm.cap):=by rw[ah c.o.m.Yv];rfl
 rw[e1]at T;rw[e2]at c1;have J:Xr _:=(Qv x y n A lo hi R S j.p hs (by omega));have F:Xr (∀u,dM u C A B t s R->Calls prog 16 #[pointer (some ⟨C,0,none⟩),string y,string n] u _):=fun u hr=>Pv C y n A B t s R u hr hs (by omega);have G:Xr (CS (fM A y n).2):=Si j.ok y n;have a:Xr _:=j;have ac:Xr _:=c.o.o;have ai:Xr (x≠f.heap.size):=fun e=>by
  have p:=ad.o.sep.all (6,i);rw[j.i6]at p;have:=ev.lt p x UN;omega
 generalize na (fM A y n).1 R=an at *;generalize fM A y n=pf at *;obtain⟨r,al⟩:=pf;simp only at J F G;clear j e1 e2;go_upto_region 18 with (go_at_call 15;refine Ug J.o ?_;rintro e u ⟨rfl,Y,Z⟩)
 have af:Xr (dM u C A B t s R):=a.o.d.Yu Z (fun q g M=>a.o.far x UN (by rw[<-Uq.1 M];exact g));have ag:Xr (ev u x al lo hi an):=Y;have E:Xr _:=Z;have B3:=Z.get ac.o (by simp;exact fun e=>ai.o e.symm);clear P Q o2 o3 U X D T c1 z1 d1 z2 d2 Y Z;obtain⟨-,-,-,-,U,X,D⟩:=dx B3;clear B3;go_wp2_with (go_at_call 16;refine Ug (F.o u af.o) ?_;rintro e w4 ⟨rfl,h',Y,q4,q5⟩);go_ret;have O:∀q,h'.Yv=some q->B.Yv=some q∨S.heap.size<=q:=fun q g=>(q5 q g).elim Us (fun z=>Uo (Un E.o.size z));have ap:∀q,q∈C :: B.Yv.toList->q∈C :: (B.Yv.toList++iW t s):=fun q g=>by
  rcases UH.1 g with e | e
  ·rw[e];exact UN
  ·exact UM _ (Vc _ e)
 refine⟨rfl,c.o.m.both a.o.v a.o.i6 a.o.i7 (ag.o.Yu q4 (fun q g M=>a.o.far q g (ap q M))) Y (Us ⟨rfl,rfl⟩) (Us ⟨rfl,rfl⟩) O (fun q g M=>?_) ((E.o.mono (fun q g _=>Vc _ g)).trans (q4.mono (fun q g _=>Vu _ g))) G.o⟩;exact IJ a.o.far (a.o.p.lt) O q g M
end Go.Proofs.YtnbhnocdhbcbcaaGreat
