import Derived.Test.YtnbhnocdhbcbcaaGreatK29
namespace Go.Proofs.YtnbhnocdhbcbcaaGreat
open Go.RowKit Tryz
open Value IntKind Ending
set_option maxHeartbeats 0
variable{T y3:World}{t y5:Hd}{H y0:Fs}{S g M z4 z6 y6 y7:Nat}{u:Nat×Nat->It}{i:Mc}{zt y2:Option Nat}{ya y9:Xs}(L v:Nat)(z3:Fs)(z0:Hd)(s D b l:Nat)(y1:Option Nat)(I:Nat×Nat->It)(w:Mc)(y4 d N m:Int)(y n:Xs)(f:World)
theorem Nb:(prog.info? 33).map (fun i=>(i.zero,i.size,i.bytes))=some (some (slice none 0 0),1,24):=by kernel_rfl
theorem rH(L:List (Option Nat×Fs))(x:Option Nat×Fs):(⟨(iW L).e,(iW L).size,(iW L).n+1,(iW L).xs++[Bz x]⟩:eR)=iW (L++[x]):=by
 simp[iW]
theorem aB.srcO(o:aB T t (cY H)):lD T t.ao H:=by
 intro k d;obtain⟨g,e,c,a,b⟩:=o.srcFi.2 k d;exact⟨g,0,e,c,by rw[Vr];exact a,by rw[Vr];exact b⟩
theorem cG.addL{a c:Option Nat}{fs:Fs}{J:Nat×Nat->It}(h:cG T S u i g)(s:mn fs)(p:fs.length<=g+1)(f:J=ee (ee (ee u (8,i.L.length) (vV a fs)) (4,0) (b9 t (iW (i.L.map (fun l=>(l.1,l.2.2))++[(a,fs)])))) (0,0) (sQ S 42 (i.cells.set 3 (slice t.ao (i.L.length+1) t.cap))))(y:ov y3 (ee (ee (ee J (9,i.L.length) (vV c fs)) (5,0) (b9 y5 (iW (i.L.map (fun l=>(l.2.1,l.2.2))++[(c,fs)])))) (0,0) (sQ S 42 ((i.cells.set 3 (slice t.ao (i.L.length+1) t.cap)).set 4 (slice y5.ao (i.L.length+1) y5.cap))))) :
  ∃n o,cG y3 S n o (g+1)/\sC u i n o:=by
 refine⟨_,{ i with hl:=t,hc:=y5,L:=i.L++[(a,c,fs)] },⟨y,?_,?_,?_,?_,?_,?_,?_,?_,?_,?_,?_⟩,?_⟩
 ·rw[bA];unfold Mc.cells;rw[Tv];rfl
 ·subst f;simp only[ee];exact h.x
 ·subst f;simp only[ee];exact h.m
 ·subst f;simp only[ee];exact h.r
 ·subst f;rw[Tl _ _ (bm (by decide)),Tl _ _ (bm (by decide)),Tl _ _ (bm (by decide)),Tl _ _ (bm (by decide)),bA,Uh];rfl
 ·rw[Tl _ _ (bm (by decide)),bA,Uh];rfl
 ·intro d x m fs b;subst f;simp only[ee];exact h.v d x m fs b
 ·intro d x m k b;rw[Tl _ _ (bm (by decide)),Tl _ _ (bm (by decide)),Tl _ _ (bm (by decide)),Tl _ _ (bm (by decide)),Tl _ _ (bm (by decide))];replace b:(i.L++[(a,c,fs)])[d]?=some (x,m,k):=b;subst f;rw[Tl _ _ (bm (by decide)),Tl _ _ (bm (by decide))];by_cases e:d<i.L.length
  ·rw[TQ e]at b;rw[Tl _ _ (vh (by omega)),Tl _ _ (vh (by omega)),Tl _ _ (bm (by decide)),Tl _ _ (bm (by decide)),Tl _ _ (bm (by decide))];exact h.more.l d x m k b
  ·have q:d=i.L.length:=by
    have:=(TA.1 b).1;rw[Tv]at this;have:d<i.L.length+1:=this;omega
   subst q;rw[TJ (Tq _),Uz]at b;cases b
   rw[bA,bA];exact⟨rfl,rfl,s,p⟩
 ·exact h.fit
 ·refine⟨h.more.len.1,h.more.len.2.1,?_⟩;have:=h.len.2.2
  show(i.L++[(a,c,fs)]).length<=_
  rw[Tv];show _+1<=_;omega
 ·exact h.rng
 ·subst f;exact⟨fun j d w=>by(repeat rw[pT (by decide) w]),rfl,rfl⟩
theorem ov.rowAt{c:List Value}{k:Nat×Nat}{r:eR}(s:ov T u)(a:u (0,0)=sQ S g c)(b:k≠(0,0))(e:u k=b9 t r):T.heap[S]?=some (.cells c.toArray g)/\aB T t r/\S∉t.XS.toList:=by
 refine⟨?_,?_,fun d=>s.far (0,0) k (Ne.symm b) S (by rw[a];exact TI.2 rfl) (by rw[e];exact d)⟩
 ·have:=s.all (0,0);rw[a]at this;exact this
 ·have:=s.all k;rw[e]at this;exact this
set_option maxRecDepth 100000
theorem Rj(h:cG f b I w l)(hN:l<=1073741824) :
  Calls prog 12 #[pointer (some ⟨b,0,none⟩),agg #[int i64 5,int i64 d,int i64 N,int i64 m,string y,string n]] f fun e w'=>jh b I w l true e w':=by
 obtain⟨W,HW⟩:=bn (f.alloc (.cells #[int i64 5,int i64 d,int i64 N,int i64 m,string y,string n] 28));obtain⟨z,hB,ag,-⟩:=h.boxed 5 d N m y n W HW.o;obtain⟨o0,-⟩:=dw hB;obtain⟨iX,S,s,t,u⟩:=TZ Nb;have HM:Xr (cG W b I w l):=z;have af:Xr ((iW (w.L.map (fun g=>(g.1,g.2.2)))).n<=4294967296):=by show(w.L.map _).length<=_;rw[TT];have:=h.len.2.2;omega
 have ad:Xr ((iW (w.L.map (fun g=>(g.2.1,g.2.2)))).n<=4294967296):=by show(w.L.map _).length<=_;rw[TT];have:=h.len.2.2;omega
 have E:Xr ((iW (w.L.map (fun g=>(g.1,g.2.2)))).n=w.L.length):=TT _;have B:Xr ((iW (w.L.map (fun g=>(g.2.1,g.2.2)))).n=w.L.length):=TT _;have Y:Xr (ov W (ee I (8,w.L.length) (vV none []))):=z.sep.put _ _ (ae.refl _ _) ⟨fun _=>rfl,fun b e=>by cases e⟩ (fun q hq=>by cases hq);obtain⟨J,A⟩:∃J,Xr (J=ee I (8,w.L.length) (vV none [])):=⟨_,rfl⟩
 rw[<-A.o]at Y;have K:Xr (J (0,0)=sQ b 42 w.cells):=ci (by rw[A.o,Tl _ _ (bm (by decide))];exact z.w0);have M:Xr (J (4,0)=b9 w.hl (iW (w.L.map (fun g=>(g.1,g.2.2))))):=ci (by rw[A.o,Tl _ _ (bm (by decide))];exact z.ls);have ac:Xr (J (5,0)=b9 w.hc (iW (w.L.map (fun g=>(g.2.1,g.2.2))))):=ci (by rw[A.o,Tl _ _ (bm (by decide))];exact z.lw);obtain⟨p1,P,p⟩:=Y.o.rowAt K.o (bm (by decide)) M.o;have C:Xr (W.heap[b]?=some (.cells w.cells.toArray 42)/\b∉w.hl.XS.toList):=⟨p1,p⟩;have c0:W.cell? ⟨b,3,none⟩=some (slice w.hl.ao w.L.length w.hl.cap):=by rw[ah p1];rfl
 clear h z hB p1 p;go_enter func12,ntmps12;go_upto_region 1 with fail
 rw[HW.o];go_upto_region 22 with (at_builtin;refine dy W rfl (.tmp 105) (.tmp 106) 34 rfl iX (slice none 0 0) 24 w.hl (iW (w.L.map (fun g=>(g.1,g.2.2)))) [Bz (none,[])] underlying34 S s t u rfl TR (by rw[E.o];simp[Act.eval]) P af.o (by omega) (by simp[Act.eval]) rfl (by simp[Bz,Value.oneCell']) ?_;intro i w5 x v;rw[rH]at x;have U:=v.XR.get C.o.1 C.o.2;have f5:=am U;have c5:w5.cell? ⟨b,3,none⟩=some (slice w.hl.ao w.L.length w.hl.cap):=(by rw[ah U];rfl);have z5:=aj U)
 rw[E.o];have Z:Xr _:=(Y.o.grown K.o (bm (by decide)) M.o v x 3 (slice i.ao (w.L.length+1) i.cap));obtain⟨V,X⟩:=bn (w5.setCell ⟨b,3,none⟩ (slice i.ao (w.L.length+1) i.cap));rw[X.o]at Z ⊢;obtain⟨F,O⟩:∃F,F=ee (ee J (4,0) (b9 i (iW (w.L.map (fun g=>(g.1,g.2.2))++[(none,[])])))) (0,0) (sQ b 42 (w.cells.set 3 (slice i.ao (w.L.length+1) i.cap))):=⟨_,rfl⟩
 have k:Xr _:=O;clear O;rw[<-k.o]at Z;have S6:Xr (ov V (ee F (9,w.L.length) (vV none []))):=Z.o.put _ _ (ae.refl _ _) ⟨fun _=>rfl,fun b e=>by cases e⟩ (fun q hq=>by cases hq);have G:Xr (ee F (9,w.L.length) (vV none []) (0,0)=sQ b 42 (w.cells.set 3 (slice i.ao (w.L.length+1) i.cap))):=ci (by rw[Tl _ _ (bm (by decide)),k.o,bA]);have H:Xr (ee F (9,w.L.length) (vV none []) (5,0)=b9 w.hc (iW (w.L.map (fun g=>(g.2.1,g.2.2))))):=ci (by rw[Tl _ _ (bm (by decide)),k.o,Tl _ _ (bm (by decide)),Tl _ _ (bm (by decide))];exact ac.o);obtain⟨b6,Q,r⟩:=S6.o.rowAt G.o (bm (by decide)) H.o;have D:Xr (V.heap[b]?=some (.cells (w.cells.set 3 (slice i.ao (w.L.length+1) i.cap)).toArray 42)/\b∉w.hc.XS.toList):=⟨b6,r⟩;clear U f5 c5 z5 x v c0 P;have c1:V.cell? ⟨b,4,none⟩=some (slice w.hc.ao w.L.length w.hc.cap):=by rw[ah b6];rfl
 clear b6 r;go_wp2_with (at_builtin;refine dy V rfl (.tmp 115) (.tmp 116) 34 rfl iX (slice none 0 0) 24 w.hc (iW (w.L.map (fun g=>(g.2.1,g.2.2)))) [Bz (none,[])] underlying34 S s t u rfl TR (by rw[B.o];simp[Act.eval]) Q ad.o (by omega) (by simp[Act.eval]) rfl (by simp[Bz,Value.oneCell']) ?_;intro h7 w7 T R;rw[rH]at T;have p7:=R.XR.get D.o.1 D.o.2;have f7:=am p7;have c7:w7.cell? ⟨b,4,none⟩=some (slice w.hc.ao w.L.length w.hc.cap):=(by rw[ah p7];rfl);have z7:=aj p7;rw[B.o]);go_ret;have S7:=S6.o.grown G.o (bm (by decide)) H.o R T 4 (slice h7.ao (w.L.length+1) h7.cap);exact⟨rfl,HM.o.addL (a:=none) (c:=none) (fs:=[]) (fun j=>⟨by show(0:Nat)<=_;omega,by show(0:Nat)<=_;omega⟩) (Uc _) (by rw[k.o,A.o]) S7⟩
theorem Ri(h:cG f b I w l)(hN:l<=1073741824) :
  Calls prog 12 #[pointer (some ⟨b,0,none⟩),agg #[int i64 4,int i64 d,int i64 N,int i64 m,string y,string n]] f fun e w'=>jh b I w l true e w':=by
 obtain⟨W,HW⟩:=bn (f.alloc (.cells #[int i64 4,int i64 d,int i64 N,int i64 m,string y,string n] 28));obtain⟨hM,hB,az,-⟩:=h.boxed 4 d N m y n W HW.o;obtain⟨o0,-⟩:=dw hB;obtain⟨iX,ac,u,v,x⟩:=TZ Nb;have z:Xr (cG W b I w l):=hM;have A:Xr (w.reg.length<=l):=h.len.2.1;have ax:Xr ((iW (w.L.map (fun g=>(g.1,g.2.2)))).n<=4294967296):=by show(w.L.map _).length<=_;rw[TT];have:=h.len.2.2;omega
 have av:Xr ((iW (w.L.map (fun g=>(g.2.1,g.2.2)))).n<=4294967296):=by show(w.L.map _).length<=_;rw[TT];have:=h.len.2.2;omega
 have O:Xr ((iW (w.L.map (fun g=>(g.1,g.2.2)))).n=w.L.length):=TT _;have H:Xr ((iW (w.L.map (fun g=>(g.2.1,g.2.2)))).n=w.L.length):=TT _;have ai:Xr (Calls prog 30 #[slice w.hr.ao w.reg.length w.hr.cap] W _):=kc w.hr.ao w.hr.cap w.reg W hM.ownR.srcO (by have:=A.o;omega);have c2:W.cell? ⟨b,2,none⟩=some (slice w.hr.ao w.reg.length w.hr.cap):=by rw[ah hM.XS];rfl
 clear h hM hB;go_enter func12,ntmps12;go_upto_region 1 with fail
 rw[HW.o];go_upto_region 14 with (go_at_call 30;refine Ts ai.o ?_;rintro e w1 ⟨rfl,X,k1⟩)
 have S1:Xr (ov w1 (ee I (8,w.L.length) (vV (some W.heap.size) w.reg))):=z.o.sep.put _ _ (k1.mono (by simp)) ⟨(fun e=>by cases e),(fun q e=>by cases e;exact X)⟩ (fun q hq=>TE (by rw[TI.1 hq];exact Tq _));obtain⟨B1,af⟩:=bn (W.heap.size);rw[af.o]at S1 ⊢;obtain⟨J,E⟩:∃J,Xr (J=ee I (8,w.L.length) (vV (some B1) w.reg)):=⟨_,rfl⟩
 rw[<-E.o]at S1;have R:Xr (J (0,0)=sQ b 42 w.cells):=ci (by rw[E.o,Tl _ _ (bm (by decide))];exact z.o.w0);have ap:Xr (J (3,0)=b9 w.hr (cY w.reg)):=ci (by rw[E.o,Tl _ _ (bm (by decide))];exact z.o.r);have S:Xr (J (4,0)=b9 w.hl (iW (w.L.map (fun g=>(g.1,g.2.2))))):=ci (by rw[E.o,Tl _ _ (bm (by decide))];exact z.o.ls);have ar:Xr (J (5,0)=b9 w.hc (iW (w.L.map (fun g=>(g.2.1,g.2.2))))):=ci (by rw[E.o,Tl _ _ (bm (by decide))];exact z.o.lw);obtain⟨p1,U,p⟩:=S1.o.rowAt R.o (bm (by decide)) S.o;have K:Xr (w1.heap[b]?=some (.cells w.cells.toArray 42)/\b∉w.hl.XS.toList):=⟨p1,p⟩;have c0:w1.cell? ⟨b,3,none⟩=some (slice w.hl.ao w.L.length w.hl.cap):=by rw[ah p1];rfl
 clear p1 p c2 k1 X;go_upto_region 16 with (at_builtin;refine dy w1 rfl (.tmp 76) (.tmp 78) 34 rfl iX (slice none 0 0) 24 w.hl (iW (w.L.map (fun g=>(g.1,g.2.2)))) [Bz (some B1,w.reg)] underlying34 ac u v x rfl TR (by rw[O.o];simp[Act.eval]) U ax.o (by omega) (by simp[Act.eval]) rfl (by simp[Bz,Value.oneCell']) ?_;intro i w5 D C;rw[rH]at D;have p5:=C.XR.get K.o.1 K.o.2;have f5:=am p5;have c5:w5.cell? ⟨b,3,none⟩=some (slice w.hl.ao w.L.length w.hl.cap):=(by rw[ah p5];rfl);have z5:=aj p5)
 rw[O.o];have S5:Xr _:=(S1.o.grown R.o (bm (by decide)) S.o C D 3 (slice i.ao (w.L.length+1) i.cap));obtain⟨w6,al⟩:=bn (w5.setCell ⟨b,3,none⟩ (slice i.ao (w.L.length+1) i.cap));rw[al.o]at S5 ⊢;obtain⟨B,T⟩:∃B,B=ee (ee J (4,0) (b9 i (iW (w.L.map (fun g=>(g.1,g.2.2))++[(some B1,w.reg)])))) (0,0) (sQ b 42 (w.cells.set 3 (slice i.ao (w.L.length+1) i.cap))):=⟨_,rfl⟩
 have j:Xr _:=T;clear T;rw[<-j.o]at S5;have an:Xr (B (3,0)=b9 w.hr (cY w.reg)):=ci (by rw[j.o,Tl _ _ (bm (by decide)),Tl _ _ (bm (by decide))];exact ap.o);have k:Xr (B (0,0)=sQ b 42 (w.cells.set 3 (slice i.ao (w.L.length+1) i.cap))):=ci (by rw[j.o,bA]);obtain⟨F,t,-⟩:=S5.o.rowAt k.o (bm (by decide)) an.o;have G:Xr (Calls prog 30 #[slice w.hr.ao w.reg.length w.hr.cap] w6 _):=kc w.hr.ao w.hr.cap w.reg w6 t.srcO (by have:=A.o;omega);clear p5 f5 c5 z5 D C c0 U t;have c2:w6.cell? ⟨b,2,none⟩=some (slice w.hr.ao w.reg.length w.hr.cap):=by rw[ah F];rfl
 clear F;go_upto_region 17 with (go_at_call 30;refine Ts G.o ?_;rintro e w8 ⟨rfl,Y,k2⟩)
 have S6:Xr (ov w8 (ee B (9,w.L.length) (vV (some w6.heap.size) w.reg))):=S5.o.put _ _ (k2.mono (by simp)) ⟨(fun e=>by cases e),(fun q e=>by cases e;exact Y)⟩ (fun q hq=>TE (by rw[TI.1 hq];exact Tq _));obtain⟨B2,ag⟩:=bn (w6.heap.size);rw[ag.o]at S6 ⊢;clear c2 k2 Y;have P:Xr (ee B (9,w.L.length) (vV (some B2) w.reg) (0,0)=sQ b 42 (w.cells.set 3 (slice i.ao (w.L.length+1) i.cap))):=ci (by rw[Tl _ _ (bm (by decide))];exact k.o);have Q:Xr (ee B (9,w.L.length) (vV (some B2) w.reg) (5,0)=b9 w.hc (iW (w.L.map (fun g=>(g.2.1,g.2.2))))):=ci (by rw[Tl _ _ (bm (by decide)),j.o,Tl _ _ (bm (by decide)),Tl _ _ (bm (by decide))];exact ar.o);obtain⟨F,V,s⟩:=S6.o.rowAt P.o (bm (by decide)) Q.o;have M:Xr (w8.heap[b]?=some (.cells (w.cells.set 3 (slice i.ao (w.L.length+1) i.cap)).toArray 42)/\b∉w.hc.XS.toList):=⟨F,s⟩;have c1:w8.cell? ⟨b,4,none⟩=some (slice w.hc.ao w.L.length w.hc.cap):=by rw[ah F];rfl
 clear F s;go_wp2_with (at_builtin;refine dy w8 rfl (.tmp 92) (.tmp 94) 34 rfl iX (slice none 0 0) 24 w.hc (iW (w.L.map (fun g=>(g.2.1,g.2.2)))) [Bz (some B2,w.reg)] underlying34 ac u v x rfl TR (by rw[H.o];simp[Act.eval]) V av.o (by omega) (by simp[Act.eval]) rfl (by simp[Bz,Value.oneCell']) ?_;intro h7 w7 ad Z;rw[rH]at ad;have p7:=Z.XR.get M.o.1 M.o.2;have f7:=am p7;have c7:w7.cell? ⟨b,4,none⟩=some (slice w.hc.ao w.L.length w.hc.cap):=(by rw[ah p7];rfl);have z7:=aj p7;rw[H.o]);go_ret;have S7:=S6.o.grown P.o (bm (by decide)) Q.o Z ad 4 (slice h7.ao (w.L.length+1) h7.cap);exact⟨rfl,z.o.addL (a:=some B1) (c:=some B2) (fs:=w.reg) z.o.fit (by have:=A.o;omega) (by rw[j.o,E.o]) S7⟩
theorem ID{L:List (Option Nat×Option Nat×Fs)}(b:L[S]?=some (zt,y2,H))(f:Option Nat×Option Nat×Fs->Option Nat×Fs)(c:Bz (f (zt,y2,y0))=Bz (f (zt,y2,H))):iW ((L.set S (zt,y2,y0)).map f)=iW (L.map f):=by
 unfold iW;have e:((L.set S (zt,y2,y0)).map f).map Bz=(L.map f).map Bz:=by
  rw[VI,VI,c];apply Vq;intro j;rw[UA];by_cases a:S=j
  ·subst a;rw[Tr rfl,Ua,Ua,b];have:=(TA.1 b).1;simp[this]
  ·rw[Tp a]
 rw[e,TT,Um,TT]
theorem JT(h:mn H)(i:Nat)(b:ya.size<=1073741824)(a:y9.size<=1073741824):mn (H.set i (ya,y9)):=by
 intro j;have:=h j;unfold aG ak at *;rw[To]at *;rw[UA];by_cases e:i=j
 ·subst e;rw[Tr rfl];split
  ·exact⟨b,a⟩
  ·exact⟨by show(0:Nat)<=_;omega,by show(0:Nat)<=_;omega⟩
 ·rw[Tp e];exact this
theorem cG.wrote(h:cG T S u i g)(d:i.L[M]?=some (zt,y2,H))(n:y0.length=H.length)(s:mn y0)(w:ov y3 (ee (ee u (8,M) (vV zt y0)) (9,M) (vV y2 y0))):∃f k,cG y3 S f k (g+1)/\sC u i f k:=by
 refine⟨_,{ i with L:=i.L.set M (zt,y2,y0) },⟨w,?_,?_,?_,?_,?_,?_,?_,?_,?_,?_,?_⟩,?_⟩
 ·rw[Tl _ _ (bm (by decide)),Tl _ _ (bm (by decide)),h.w0];unfold Mc.cells;rw[Um]
 ·simp only[ee];exact h.x
 ·simp only[ee];exact h.m
 ·simp only[ee];exact h.r
 ·rw[Tl _ _ (bm (by decide)),Tl _ _ (bm (by decide)),h.ls];congr 1;exact(ID d (fun l=>(l.1,l.2.2)) (by simp only[Bz,n])).symm
 ·rw[Tl _ _ (bm (by decide)),Tl _ _ (bm (by decide)),h.lw];congr 1;exact(ID d (fun l=>(l.2.1,l.2.2)) (by simp only[Bz,n])).symm
 ·intro b x m H a;simp only[ee];exact h.v b x m H a
 ·intro b x m c a;replace a:(i.L.set M (zt,y2,y0))[b]?=some (x,m,c):=a;rw[UA]at a;rw[Tl _ _ (bm (by decide))];by_cases e:M=b
  ·subst e;rw[Tr rfl,Tr (TA.1 d).1]at a;cases a
   obtain⟨-,-,-,y⟩:=h.l M zt y2 H d;rw[bA,bA];exact⟨rfl,rfl,s,by omega⟩
  ·rw[Tp e]at a;rw[Tl _ _ (vh (Ne.symm e)),Tl _ _ (vh (Ne.symm e)),Tl _ _ (bm (by decide))];exact h.more.l b x m c a
 ·exact h.fit
 ·obtain⟨o,p,q⟩:=h.more.len;exact⟨o,p,by show(i.L.set M (zt,y2,y0)).length<=_;rw[Um];exact q⟩
 ·exact h.rng
 ·exact⟨fun j b t=>by(repeat rw[pT (by decide) t]),rfl,rfl⟩
theorem jq.wrote(h:jq T (some S) H)(a:g<H.length)(n d:Xs):jq ((T.setCell ⟨S,g*2,none⟩ (string n)).setCell ⟨S,g*2+1,none⟩ (string d)) (some S) (H.set g (n,d))/\ae [S] T ((T.setCell ⟨S,g*2,none⟩ (string n)).setCell ⟨S,g*2+1,none⟩ (string d)):=by
 refine⟨⟨(fun e=>by cases e),fun q e=>?_⟩,((ae.refl _ _).sl1 _).sl1 _⟩;cases e
 rw[ab (ab (h.XS S rfl) _ _) _ _,Uu,Uu,Il H g n d a]
theorem jq.cells(h:jq T (some S) H)(d:g<H.length):(T.cell? ⟨S,g*2,none⟩=some (string (aG H g))/\T.cell? ⟨S,g*2+1,none⟩=some (string (ak H g)))/\(∀j,T.frozen? ⟨S,j,none⟩=false)/\S<T.heap.size:=by
 have a:=h.XS S rfl;obtain⟨b,c⟩:=xB H g d;exact⟨⟨by rw[ah a];simpa using b,by rw[ah a];simpa using c⟩,am a,aj a⟩
theorem pg{L:List (Option Nat×Fs)}(o:aB T t (iW L)){k:Nat}{x:Option Nat×Fs}(c:L[k]?=some x):∃g,t.ao=some ⟨g,0,none⟩/\g<T.heap.size/\T.cell? ⟨g,k,none⟩=some (Bz x):=by
 have i:=(TA.1 c).1;rcases o.XP with ⟨_,b,_⟩ | ⟨g,d,a,e,f,-⟩
 ·have b:L.length=0:=b;omega
 ·exact⟨g,a,aj e,o.cell a k (Bz x) (by show(L.map Bz)[k]?=_;rw[Ua,c];rfl)⟩
theorem Rk(h:cG f b I w l)(hN:l<=1073741824)(hA:rj d)(hC:rj N)(hs:y.size<=1073741824)(ht:n.size<=1073741824) :
  Calls prog 12 #[pointer (some ⟨b,0,none⟩),agg #[int i64 6,int i64 d,int i64 N,int i64 m,string y,string n]] f fun e w'=>jh b I w l true e w':=by
 obtain⟨W,HW⟩:=bn (f.alloc (.cells #[int i64 6,int i64 d,int i64 N,int i64 m,string y,string n] 28));obtain⟨v,hB,a7,-⟩:=h.boxed 6 d N m y n W HW.o;obtain⟨o0,o1,o2,o3,X,Y,E⟩:=dw hB;have T:=aj v.XS;have H:W.cell? ⟨b,3,none⟩=some (slice w.hl.ao w.L.length w.hl.cap):=by rw[ah v.XS];rfl
 by_cases hL:w.L.length=0
 ·have HF:Xr (cG W b I w l):=v;rw[hL]at H;clear h v hB;go_enter func12,ntmps12;go_upto_region 1 with fail
  rw[HW.o];go_wp2;go_ret;exact⟨rfl,_,_,HF.o.more,sC.refl _ _⟩
 ·have a6:=h.len.2.2;have P:Xr (∀F,Calls prog 13 #[int i64 d,int i64 w.L.length] F fun e w'=>e=returned (int i64 (fy d w.L.length:Nat))/\w'=F):=fun F=>fG d w.L.length F hA ⟨by omega,by omega⟩;have az:=hZ d w.L.length (by omega);obtain⟨k,Hk⟩:=bn (fy d w.L.length);rw[Hk.o]at P az;obtain⟨⟨a,c,j⟩,hk⟩:∃x,w.L[k]?=some x:=⟨w.L[k],Tn az⟩
  have HM:Xr (cG W b I w l):=v;obtain⟨C,D,B,be⟩:=v.l k a c j hk;obtain⟨gl,V,gz,u⟩:=pg v.ownL (k:=k) (x:=(a,j)) (by rw[Ua,hk];rfl);replace u:W.cell? ⟨gl,k,none⟩=some (slice (vm a) j.length j.length):=u;rw[V]at H;have bg:(k:Int)<(w.L.length:Int):=by omega
  have a5:(0:Int)<(w.L.length:Int):=by omega
  have ag:Xr _:=hk;have H8:Xr _:=C;have H9:Xr _:=D;by_cases A:j.length=0
  ·rw[A]at u;clear h v hB hk C D B V;go_enter func12,ntmps12;(go_upto_region 1 with fail);rw[HW.o];(go_upto_region 26 with fail);go_quiet ((go_at_call 13;exact T0 (P.o _)));have HF:Xr (cG (W.drewN nq) b I w l):=HM.o.XE (bR.drewN nq);go_wp2;go_ret;exact⟨rfl,_,_,HF.o.more,sC.refl _ _⟩
  ·have al:Xr (∀F,Calls prog 13 #[int i64 N,int i64 j.length] F fun e w'=>e=returned (int i64 (fy N j.length:Nat))/\w'=F):=fun F=>fG N j.length F hC ⟨by omega,by omega⟩;have r:=hZ N j.length (by omega);obtain⟨i,Hi⟩:=bn (fy N j.length);rw[Hi.o]at al r;have ar:jq W a j:=(by have:=v.sep.all (8,k);rw[C]at this;exact this);have av:jq W c j:=(by have:=v.sep.all (9,k);rw[D]at this;exact this);obtain⟨p,rfl⟩:∃p,a=some p:=by
    cases a with
    | none=>rw[ar.nil rfl]at A;exact absurd rfl A
    | some p=>exact⟨p,rfl⟩
   obtain⟨s,rfl⟩:∃s,c=some s:=by
    cases c with
    | none=>rw[av.nil rfl]at A;exact absurd rfl A
    | some s=>exact⟨s,rfl⟩
   have J:p≠f.heap.size:=by
    intro e;have:=(vV (some p) j).lt f (by have:=h.sep.all (8,k);rw[(h.l k _ _ j hk).1]at this;exact this) p (TI.2 rfl);omega
   have aT:Xr _:=hB;have ac:Xr (mn (j.set i (y,n))):=JT B i hs ht;replace u:W.cell? ⟨gl,k,none⟩=some (slice (some ⟨p,0,none⟩) j.length j.length):=u;have bf:(i:Int)<j.length:=(by omega);have bd:(0:Int)<j.length:=(by omega);have a1:Xr _:=J;have G:Xr (∀t,ae [] W t->(t.cell? ⟨f.heap.size,2,none⟩=some (int i64 N)/\t.cell? ⟨f.heap.size,4,none⟩=some (string y)/\t.cell? ⟨f.heap.size,5,none⟩=some (string n)/\f.heap.size<t.heap.size)/\(t.cell? ⟨b,3,none⟩=some (slice (some ⟨gl,0,none⟩) w.L.length w.hl.cap)/\b<t.heap.size)/\t.cell? ⟨gl,k,none⟩=some (slice (some ⟨p,0,none⟩) j.length j.length)/\gl<t.heap.size):=fun t kw=>by
    have q:∀g i,g<W.heap.size->t.cell? ⟨g,i,none⟩=W.cell? ⟨g,i,none⟩:=fun g i hg=>TO (kw.block g hg (by simp));have z:=kw.size;exact⟨⟨by rw[q _ _ E];exact o2,by rw[q _ _ E];exact X,by rw[q _ _ E];exact Y,by omega⟩,⟨by rw[q _ _ T];exact H,by omega⟩,by rw[q _ _ gz];exact u,by omega⟩
   clear h v hB hk C D B V ar av J;go_enter func12,ntmps12;(go_upto_region 1 with fail);rw[HW.o];(go_upto_region 26 with fail);go_quiet ((go_at_call 13;exact T0 (P.o _)));(go_upto_region 28 with fail);obtain⟨W2,an⟩:=bn (W.drewN nq);rw[an.o];have ad:Xr (ae [] W W2):=(by show ae _ _ _;rw[<-an.o];exact bR.drewN nq);clear o0 o1 o2 o3 X Y E H T u gz;obtain⟨⟨o2,X,Y,E⟩,⟨H,T⟩,u,gz⟩:=G.o W2 ad.o;go_quiet ((go_at_call 13;exact T0 (al.o _)));(go_upto_region 29 with fail);obtain⟨Z,ap⟩:=bn (W2.drewN nq);rw[ap.o];have K:Xr (ae [] W Z):=(by show ae _ _ _;rw[<-ap.o];exact ad.o.drewN nq);have ai:Xr (cG Z b I w l):=HM.o.XE K.o;have M:Xr (jq Z (some p) j):=(by show jq _ _ _;have:=ai.o.sep.all (8,k);rw[H8.o]at this;exact this);clear o2 X Y E H T u gz;obtain⟨⟨o2,X,Y,E⟩,⟨H,T⟩,u,gz⟩:=G.o Z K.o;obtain⟨⟨d0,d1⟩,df,dz⟩:=M.o.cells r;go_region
   all_goals
    obtain⟨S,Q⟩:=bn (((Z.setCell ⟨p,i*2,none⟩ (string y)).setCell ⟨p,i*2+1,none⟩ (string n)).drew);rw[Q.o];have af:Xr (ae [p] Z S):=(by show ae _ _ _;rw[<-Q.o];exact(M.o.wrote r y n).2.drew);have S4:Xr (ov S (ee I (8,k) (vV (some p) (j.set i (y,n))))):=by
     show ov _ _;refine ai.o.sep.put _ _ (by rw[H8.o];exact af.o) ?_ (fun q hq=>TH (by rw[H8.o];exact hq));rw[<-Q.o];exact(vV _ _).ok [] _ _ (M.o.wrote r y n).1 bR.drew (by simp)
    have a2:Xr (ee I (8,k) (vV (some p) (j.set i (y,n))) (0,0)=sQ b 42 w.cells):=ci (by rw[Tl _ _ (bm (by decide))];exact HM.o.w0);have a3:Xr (ee I (8,k) (vV (some p) (j.set i (y,n))) (5,0)=b9 w.hc (iW (w.L.map (fun a4=>(a4.2.1,a4.2.2))))):=ci (by rw[Tl _ _ (bm (by decide))];exact HM.o.lw);have U:Xr (ee I (8,k) (vV (some p) (j.set i (y,n))) (9,k)=vV (some s) j):=ci (by rw[Tl _ _ (bm (by decide))];exact H9.o);obtain⟨b4,aS,-⟩:=S4.o.rowAt a2.o (bm (by decide)) a3.o;have O:Xr (jq S (some s) j):=(by show jq _ _ _;have:=S4.o.all (9,k);rw[U.o]at this;exact this);obtain⟨gr,ax,rz,rc⟩:=pg aS (k:=k) (x:=(some s,j)) (by rw[Ua,ag.o];rfl);replace rc:S.cell? ⟨gr,k,none⟩=some (slice (some ⟨s,0,none⟩) j.length j.length):=rc;have c4:S.cell? ⟨b,4,none⟩=some (slice (some ⟨gr,0,none⟩) w.L.length w.hc.cap):=(by rw[ah b4,<-ax];rfl);clear d0 d1 df dz o2 X Y E H T u gz;obtain⟨⟨d0,d1⟩,df,dz⟩:=O.o.cells r;have T:=aj b4;have B4:=af.o.get (K.o.get aT.o (by simp)) (by simp;exact fun e=>a1.o e.symm);obtain⟨-,-,-,-,X,Y,E⟩:=dw B4;clear b4 aS ax B4;(go_upto_region 30 with fail);go_region
    all_goals
     obtain⟨W5,R⟩:=bn (((S.setCell ⟨s,i*2,none⟩ (string y)).setCell ⟨s,i*2+1,none⟩ (string n)).drew);rw[R.o];have a0:Xr (ae [s] S W5):=(by show ae _ _ _;rw[<-R.o];exact(O.o.wrote r y n).2.drew);have S5:Xr (ov W5 (ee (ee I (8,k) (vV (some p) (j.set i (y,n)))) (9,k) (vV (some s) (j.set i (y,n))))):=by
      show ov _ _;refine S4.o.put _ _ (by rw[U.o];exact a0.o) ?_ (fun q hq=>TH (by rw[U.o];exact hq));rw[<-R.o];exact(vV _ _).ok [] _ _ (O.o.wrote r y n).1 bR.drew (by simp)
     go_wp2;go_ret;exact⟨rfl,HM.o.wrote ag.o Um ac.o S5.o⟩
theorem Du{o k:Nat}(h:T.heap[S]?=some (.cells (rT H).toArray 68))(c:o+k<H.length):T.cell? ⟨S,o*2+k*2,none⟩=some (string (aG H (o+k)))/\T.cell? ⟨S,o*2+k*2+1,none⟩=some (string (ak H (o+k))):=by
 obtain⟨a,b⟩:=xB H (o+k) c;rw[WH]at a b;exact⟨by rw[ah h];simpa using a,by rw[ah h];simpa using b⟩
theorem jq.piece(h:T.heap[S]?=some (.cells (rT H).toArray 68))(o n:Nat)(i:o+n<=H.length):lD T (some ⟨S,o*2,none⟩) ((H.drop o).take n):=by
 intro k g;rw[UJ,Ux]at g;have e:∀j,j<n->((H.drop o).take n)[j]?=H[o+j]?:=fun j f=>by rw[VX,Tr f,Vz]
 obtain⟨a,b⟩:=Du h (o:=o) (k:=k) (by omega);have c:aG ((H.drop o).take n) k=aG H (o+k):=by unfold aG;rw[To,To,e k (by omega)]
 have d:ak ((H.drop o).take n) k=ak H (o+k):=by unfold ak;rw[To,To,e k (by omega)]
 exact⟨S,o*2,rfl,aj h,by rw[c];exact a,by rw[d];exact b⟩
theorem jq.src{a:Option Nat}(h:jq T a H):lD T (vm a) H:=by
 cases a with
 | none=>rw[h.nil rfl];intro k c;cases c
 | some b =>
  have:=jq.piece (h.XS b rfl) 0 H.length (by omega);rw[We,UO,Xn]at this;exact this
theorem mn.piece(h:mn H)(o n:Nat):mn ((H.drop o).take n):=by
 intro j;have a:=h (o+j);unfold aG ak at *;rw[To]at *;rw[VX];split
 ·rw[Vz];exact a
 ·exact⟨by show(0:Nat)<=_;omega,by show(0:Nat)<=_;omega⟩
def EQ(w:World)(x m:Nat)(h:Hd)(lo hi lo2 hi2:Nat)(st:Option Nat)(fs:Fs)(e:Ending)(w':World):Prop :=
 e=returned (bool true)/\ew w' x fs lo hi st/\(∃h',dM w' m fs h' lo2 hi2 st/\∀q,h'.XS=some q->h.XS=some q∨w.heap.size<=q)/\ae ([x]++m :: h.XS.toList) w w'
theorem lD.srcF(h:T.heap[S]?=some (.cells (rT H).toArray 68)):oc T (some ⟨S,0,none⟩) H.length H:=by
 refine⟨Tq _,fun k c=>?_⟩;obtain⟨a,b⟩:=Du h (o:=0) (k:=k) (by omega);rw[Xn,Vr]at a b;exact⟨S,rfl,aj h,by simpa using a,by simpa using b⟩
theorem Dt(f e:Fs)(h:Hd)(K I m g:Nat)(x:Option Nat)(w:World)(hx:ew w L f K I x)(J:dM w v f h m g x)(hb:w.heap[s]?=some (.cells (rT e).toArray 68))(C:∀q,q∈L :: iV K I->q∉v :: (h.XS.toList++iV m g))(ag:s≠L)(af:s≠v)(ac:h.XS≠some s)(hl:D+b+l<=e.length)(hN:e.length<=1073741824)(hf:mn e) :
  Calls prog 14 #[pointer (some ⟨L,0,none⟩),pointer (some ⟨v,0,none⟩),slice (some ⟨s,0,none⟩) e.length e.length,int i64 D,int i64 b,int i64 l] w fun r p=>EQ w L v h K I m g (mY (dU ((e.drop D).take b)) x) (jX f ((e.drop D).take b)) r p:=by
 have az:Xr (dM w v f h m g x):=J;have HB:Xr _:=hb;have xz:=hx.anyS.lt;have t:((e.drop D).take b).length=b:=by rw[UJ,Ux];omega
 have a0:Xr (∀p,ae [] w p->lD p (some ⟨s,0,none⟩) e):=fun p k=>(jq.src (a:=some s) ⟨(fun l=>by cases l),fun q l=>by cases l;exact k.get hb (by simp)⟩)
 have Y:Xr (∀o n,ae [] w o->(b=0∨n=⟨s,D*2,none⟩)->lD o (some n) ((e.drop D).take b)):=fun o n k u=>by
  rcases u with l | l
  ·rw[l];intro j hj;rw[VR]at hj;cases hj
  ·rw[l];exact jq.piece (k.get hb (by simp)) D b (by omega)
 have ap:Xr (Calls prog 30 #[slice (some ⟨s,0,none⟩) e.length e.length] w _):=kc _ e.length e w (a0.o w (ae.refl _ _)) hN;have ar:Xr (∀o c n,ae [] w o->(b=0∨n=⟨s,D*2,none⟩)->Calls prog 30 #[slice (some n) b c] o fun l p=>l=returned (slice (some ⟨o.heap.size,0,none⟩) b b)/\p.heap[o.heap.size]?=some (.cells (rT ((e.drop D).take b)).toArray 68)/\ae [] o p):=fun o c n k u=>by
  have:=kc (some n) c ((e.drop D).take b) o (Y.o o n k u) (by rw[t];omega);rw[t]at this;exact this
 have a4:Xr (∀E c n,ae [] w E->(b=0∨n=⟨s,D*2,none⟩)->Calls prog 31 #[pointer (some ⟨L,0,none⟩),slice (some n) b c] E fun l p=>l=returned (int i64 (dU ((e.drop D).take b)))/\ew p L (jX f ((e.drop D).take b)) K I (mY (dU ((e.drop D).take b)) x)/\ae [L] E p):=fun E c n k u=>by
  have:=DQ L f ((e.drop D).take b) (some n) c K I x E (hx.XE k) (Y.o E n k u) (hf.piece D b);rw[t]at this;exact this
 have ax:Xr (∀y B2,dM y v f h m g x->y.heap[B2]?=some (.cells (rT ((e.drop D).take b)).toArray 68)->Calls prog 32 #[pointer (some ⟨v,0,none⟩),slice (some ⟨B2,0,none⟩) b b] y fun l p=>l=returned (int i64 (dU ((e.drop D).take b)))/\∃G,dM p v (jX f ((e.drop D).take b)) G m g (mY (dU ((e.drop D).take b)) x)/\ae (v :: h.XS.toList) y p/\∀q,G.XS=some q->h.XS=some q∨y.heap.size<=q):=fun y B2 hr B=>by
  have:=CT v f ((e.drop D).take b) h m g x (some ⟨B2,0,none⟩) ((e.drop D).take b).length y hr (lD.srcF B) (fun l=>by cases l) (fun n l=>by cases l;exact⟨_,rfl⟩) (fun j _=>hf.piece D b j);rw[t]at this;exact this
 have X:Xr (v<w.heap.size/\∀q,h.XS=some q->q<w.heap.size):=by
  obtain⟨on,p2,p3,p4,hr⟩:=J.anyS;exact⟨aj hr.d,fun q i=>hr.X9.lt i⟩
 generalize jX f ((e.drop D).take b)=F at *;generalize mY (dU ((e.drop D).take b)) x=M at *;generalize dU ((e.drop D).take b)=r at *;generalize (e.drop D).take b=P at *;have bd:(D:Int)+(b:Int)<=e.length:=by omega
 have be:(D:Int)+(b:Int)+(l:Int)<=e.length:=by omega
 have HD:Xr (s≠L/\s≠v/\h.XS≠some s):=⟨ag,af,ac⟩;have V:Xr _:=C;clear hx J hb hf C ag af ac t;have H:(b=0/\l=0/\e.length=D)∨(b=0/\l=0/\¬e.length=D)∨(¬b+l=0/\¬e.length=D):=by omega
 rcases H with ⟨rfl,rfl,rfl⟩ | ⟨rfl,rfl,a6⟩ | ⟨bc,a6⟩
 all_goals
  go_enter func14,ntmps14;go_upto_region 2 with (go_at_call 30;refine Ts ap.o ?_;rintro e1 o ⟨rfl,Z,k1⟩)
  go_upto_region 3 with (go_at_call 30;refine Ts (ar.o o _ _ k1 (by first | exact TH trivial | exact TH rfl | exact TE rfl)) ?_;rintro e2 E ⟨rfl,B,k2⟩)
  have A:Xr _:=k1.trans k2;have an:Xr _:=(k2.get Z (by simp));have ao:Xr _:=B;have a5:Xr (w.heap.size<=o.heap.size):=k1.size;clear Z B k1 k2;go_upto_region 4 with (go_at_call 31;refine Ts (a4.o E _ _ A.o (by first | exact TH trivial | exact TH rfl | exact TE rfl)) ?_;rintro e3 y ⟨rfl,al,N⟩)
  have aS:Xr (dM y v f h m g x):=(az.o.XE A.o).XR N (fun q i J=>V.o L Ue (by rw[<-TI.1 J];exact i));have Q:Xr _:=(N.get an.o (by simp;omega));have S:Xr _:=(N.get ao.o (by have:=a5.o;simp;omega));have T:Xr _:=(N.get (A.o.get HB.o (by simp)) (by simp;exact HD.o.1));have a2:Xr (ew y L F K I M):=al;have W:Xr _:=((A.o.mono (S':=[L]) (by simp)).trans N);clear al N;go_upto_region 5 with (go_at_call 32;refine Ts (ax.o y _ aS.o S.o) ?_;rintro e4 O ⟨rfl,h4,ai,k4,b4⟩)
  have aT:Xr (∃G,dM O v F G m g M/\∀q,G.XS=some q->h.XS=some q∨w.heap.size<=q):=⟨h4,ai,fun q i=>(b4 q i).elim TH (fun z=>TE (TF W.o.size z))⟩;have a3:Xr (ew O L F K I M):=a2.o.XR k4 (fun q i J=>V.o q i (by rcases Ub.1 J with l | l;rw[l];exact Ue;exact Ud _ (UD _ l)));have R:Xr _:=(k4.get Q.o (by intro i;rcases Ub.1 i with l | i;have:=X.o.1;omega;have:=X.o.2 _ (aQ i);omega));have U:Xr _:=(k4.get T.o (by intro i;rcases Ub.1 i with l | i;exact HD.o.2.1 l;exact HD.o.2.2 (aQ i)));have av:Xr (ae ([L]++v :: h.XS.toList) w O):=(W.o.mono (S':=[L]++v :: h.XS.toList) (fun q i _=>UD _ i)).trans (k4.mono (fun q i _=>UV _ i));have a1:Xr _:=(oF (some ⟨s,0,none⟩) (some ⟨w.heap.size,0,none⟩) e.length e.length e O (jq.src (a:=some s) ⟨(fun l=>by cases l),fun q l=>by cases l;exact U.o⟩) (jq.src (a:=some w.heap.size) ⟨(fun l=>by cases l),fun q l=>by cases l;exact R.o⟩) (by omega));clear ai k4 b4;go_wp2_with (go_at_call 27;refine Ts a1.o ?_;rintro e5 w5 ⟨rfl,n5,bf⟩);go_ret;have k5:ae [] O (O.drewN n5):=bR.drewN n5;obtain⟨G,ba,a7⟩:=aT.o;exact⟨rfl,a3.o.XE k5,⟨G,ba.XE k5,a7⟩,av.o.trans (k5.mono (by simp))⟩
theorem FD(hx:ew f L z3 s D y1)(x:dM f v z3 z0 b l y1)(p:∀q,q∈L :: iV s D->q∉v :: (z0.XS.toList++iV b l)) :
  Calls prog 14 #[pointer (some ⟨L,0,none⟩),pointer (some ⟨v,0,none⟩),slice none 0 0,int i64 0,int i64 0,int i64 0] f fun r a=>EQ f L v z0 s D b l (mY (dU []) y1) (jX z3 []) r a:=by
 have Q:Xr (dM f v z3 z0 b l y1):=x;have xz:=hx.anyS.lt;have i:Xr (∀(a:World) ao,lD a ao []):=fun a ao j Z=>by cases Z
 have G:mn []:=fun j=>⟨by show(0:Nat)<=_;omega,by show(0:Nat)<=_;omega⟩
 have HC:Xr (∀n,Calls prog 30 #[slice none 0 0] n fun e a=>e=returned (slice (some ⟨n.heap.size,0,none⟩) 0 0)/\a.heap[n.heap.size]?=some (.cells (rT []).toArray 68)/\ae [] n a):=fun n=>kc none 0 [] n (i.o _ _) (by simp);have W:Xr (∀A,ae [] f A->Calls prog 31 #[pointer (some ⟨L,0,none⟩),slice none 0 0] A fun e a=>e=returned (int i64 (dU []))/\ew a L (jX z3 []) s D (mY (dU []) y1)/\ae [L] A a):=fun A k=>DQ L z3 [] none 0 s D y1 A (hx.XE k) (i.o _ _) G;have P:Xr (∀g J,dM g v z3 z0 b l y1->g.heap[J]?=some (.cells (rT []).toArray 68)->Calls prog 32 #[pointer (some ⟨v,0,none⟩),slice (some ⟨J,0,none⟩) 0 0] g fun e a=>e=returned (int i64 (dU []))/\∃w,dM a v (jX z3 []) w b l (mY (dU []) y1)/\ae (v :: z0.XS.toList) g a/\∀q,w.XS=some q->z0.XS=some q∨g.heap.size<=q):=fun g J K m=>by
  exact CT v z3 [] z0 b l y1 (some ⟨J,0,none⟩) 0 g K (lD.srcF m) (fun e=>by cases e) (fun ad e=>by cases e;exact⟨_,rfl⟩) (fun j Z=>by cases Z)
 have ag:Xr (v<f.heap.size/\∀q,z0.XS=some q->q<f.heap.size):=by
  obtain⟨on,p2,p3,p4,K⟩:=x.anyS;exact⟨aj K.d,fun q c=>K.X9.lt c⟩
 generalize jX z3 []=u at *;generalize mY (dU []) y1=y at *;generalize dU []=r at *;have E:Xr _:=p;clear hx x p G;go_enter func14,ntmps14;go_upto_region 2 with (go_at_call 30;refine Ts (HC.o f) ?_;rintro e1 n ⟨rfl,Y,k1⟩)
 go_upto_region 3 with (go_at_call 30;refine Ts (HC.o n) ?_;rintro e2 A ⟨rfl,m,k2⟩)
 have t:Xr _:=k1.trans k2;have N:Xr _:=m;have X:Xr (f.heap.size<=n.heap.size):=k1.size;clear Y m k1 k2;go_upto_region 4 with (go_at_call 31;refine Ts (W.o A t.o) ?_;rintro e3 g ⟨rfl,I,M⟩)
 have R:Xr (dM g v z3 z0 b l y1):=(Q.o.XE t.o).XR M (fun q c x=>E.o L Ue (by rw[<-TI.1 x];exact c));have C:Xr _:=(M.get N.o (by have:=X.o;simp;omega));have U:Xr (ew g L u s D y):=I;have F:Xr _:=((t.o.mono (S':=[L]) (by simp)).trans M);clear I M;go_upto_region 5 with (go_at_call 32;refine Ts (P.o g _ R.o C.o) ?_;rintro e4 B ⟨rfl,h4,H,k4,b4⟩)
 have S:Xr (∃w,dM B v u w b l y/\∀q,w.XS=some q->z0.XS=some q∨f.heap.size<=q):=⟨h4,H,fun q c=>(b4 q c).elim TH (fun z=>TE (TF F.o.size z))⟩;have V:Xr (ew B L u s D y):=U.o.XR k4 (fun q c x=>E.o q c (by rcases Ub.1 x with e | e;rw[e];exact Ue;exact Ud _ (UD _ e)));have O:Xr (ae ([L]++v :: z0.XS.toList) f B):=(F.o.mono (S':=[L]++v :: z0.XS.toList) (fun q c _=>UD _ c)).trans (k4.mono (fun q c _=>UV _ c));have T:Xr (Calls prog 27 #[slice none 0 0,slice (some ⟨f.heap.size,0,none⟩) 0 0] B _):=oF none (some ⟨f.heap.size,0,none⟩) 0 0 [] B (i.o _ _) (i.o _ _) (by simp);clear H k4 b4;go_wp2_with (go_at_call 27;refine Ts T.o ?_;rintro e5 w5 ⟨rfl,n5,ai⟩);go_ret;have k5:ae [] B (B.drewN n5):=bR.drewN n5;obtain⟨w,af,ac⟩:=S.o;exact⟨rfl,V.o.XE k5,⟨w,af.XE k5,ac⟩,O.o.trans (k5.mono (by simp))⟩
def QT(w:World)(x m:Nat)(h:Hd)(lo hi lo2 hi2:Nat)(fs:Fs)(e:Ending)(w':World):Prop :=
 e=returned (bool true)/\(∃st lo1 hi1 lo3 hi3,ew w' x fs lo1 hi1 st/\oL w.heap.size lo hi lo1 hi1/\dM w' m fs h lo3 hi3 st/\oL w.heap.size lo2 hi2 lo3 hi3/\(∀q,q∈x :: iV lo1 hi1->q∉m :: (h.XS.toList++iV lo3 hi3)))/\ae ([x]++m :: h.XS.toList) w w'
theorem Cl(hx:ew f L z3 s D y1)(g:dM f v z3 z0 b l y1)(ap:∀j,j<z3.length->(ak z3 j).size<=1024)(x:∀q,q∈L :: iV s D->q∉v :: (z0.XS.toList++iV b l)) :
  Calls prog 17 #[pointer (some ⟨L,0,none⟩),pointer (some ⟨v,0,none⟩),string n] f fun e H=>QT f L v z0 s D b l z3 e H:=by
 have ao:z3.length<=4:=by obtain⟨on,p2,p3,p4,r⟩:=g.anyS;exact r.le
 obtain⟨⟨r,W,V,c⟩,q,i,h1,h2⟩:=Mw L v z3 z0 s D b l y1 n f hx ao ap;have H1:Xr (Calls prog 37 #[pointer (some ⟨L,0,none⟩),string n] f fun e H=>e=returned (tuple #[agg #[int i64 r,string W,int i64 V,int i64 c],int i64 q])/\(∃d a,ew H L z3 d a i/\oL f.heap.size s D d a)/\ae [L] f H):=h1;have H2:Xr (∀I,dM I v z3 z0 b l y1->Calls prog 38 #[pointer (some ⟨v,0,none⟩),string n] I fun e H=>e=returned (tuple #[agg #[int i64 r,string W,int i64 V,int i64 c],int i64 q])/\(∃d a,dM H v z3 z0 d a i/\oL I.heap.size b l d a)/\ae [v] I H):=h2;have ad:Xr (dM f v z3 z0 b l y1):=g;have y:Xr _:=x;have T:Xr ((∀q,q∈L :: iV s D->q<f.heap.size)/\∀q,q∈v :: (z0.XS.toList++iV b l)->q<f.heap.size):=⟨hx.lt,g.lt⟩;clear h1 h2 hx g x;go_enter func17,ntmps17;go_upto_region 2 with (go_at_call 37;refine Ts H1.o ?_;rintro e1 S ⟨rfl,⟨d,a,G,n1⟩,k1⟩)
 obtain⟨u,C⟩:=bn (S.alloc (.cells #[int i64 r,string W,int i64 V,int i64 c] 87));have A:Xr _:=fI C.o;have X:Xr _:=f9 C.o;have al:Xr (ew u L z3 d a i):=G.XE A.o;have O:Xr (oL f.heap.size s D d a):=n1;have Z:Xr (a<=S.heap.size):=G.z;have N:Xr (ae [L] f u):=k1.trans (A.o.mono (by simp));have ag:Xr (dM u v z3 z0 b l y1):=ad.o.XR N.o (fun q k g=>y.o L Ue (by rw[<-TI.1 g];exact k));have P:Xr (S.heap.size<=u.heap.size):=A.o.size;have F:Xr (f.heap.size<=S.heap.size):=k1.size;rw[C.o];clear G k1 n1;go_upto_region 3 with (go_at_call 38;refine Ts (H2.o u ag.o) ?_;rintro t I ⟨rfl,⟨p,m,Q,n3⟩,k2⟩)
 obtain⟨U,E⟩:=bn (I.alloc (.cells #[int i64 r,string W,int i64 V,int i64 c] 87));have M:Xr _:=fI E.o;have J:=f9 E.o;have B:Xr (ae [v] u U):=k2.trans (M.o.mono (by simp));have K:Xr (∀q,q∈L :: iV d a->q∈L :: iV s D∨(f.heap.size<=q/\q<S.heap.size)):=fun q k=>by
  rcases Ub.1 k with e | e
  ·exact TH (by rw[e];exact Ue)
  ·rcases O.o.mem e with t | t
   ·exact TH (Ud _ t)
   ·exact TE ⟨t,Tw (oj.1 e).2 Z.o⟩
 have an:Xr (ew U L z3 d a i):=al.o.XR B.o (fun q k g=>by
  rw[TI.1 g]at k;rcases K.o v k with e | e
  ·exact y.o v e Ue
  ·have:=T.o.2 v Ue;omega)
 have ai:Xr (dM U v z3 z0 p m i):=Q.XE M.o;have af:Xr (oL f.heap.size b l p m):=by
  rcases n3 with e | e
  ·exact TH e
  ·exact TE (TF (TF F.o P.o) e)
 have Y:Xr (∀q,q∈L :: iV d a->q∉v :: (z0.XS.toList++iV p m)):=fun q k g=>by
  have R:∀q,q∈v :: (z0.XS.toList++iV p m)->q∈v :: (z0.XS.toList++iV b l)∨u.heap.size<=q:=fun q g=>by
   rcases Ub.1 g with e | e
   ·exact TH (by rw[e];exact Ue)
   ·rcases Ug.1 e with e | e
    ·exact TH (Ud _ (UD _ e))
    ·rcases oL.mem (z:=u.heap.size) (lo:=b) (hi:=l) n3 e with e | e
     ·exact TH (Ud _ (UV _ e))
     ·exact TE e
  have z1:=F.o;have z2:=P.o;rcases K.o q k with e | e
  ·rcases R q g with t | t
   ·exact y.o q e t
   ·have:=T.o.1 q e;omega
  ·rcases R q g with t | t
   ·have:=T.o.2 q t;omega
   ·omega
 have w:=B.o.get X.o (by have:=T.o.2 v Ue;have:=F.o;simp;omega);have ac:Xr (ae ([L]++v :: z0.XS.toList) f U):=(N.o.mono (fun q k _=>UD _ k)).trans (B.o.mono (fun q k _=>UV _ (by rw[TI.1 k];exact Ue)));rw[E.o];clear Q k2 n3;obtain⟨⟨a0,a1,a2,a3⟩,-,az⟩:=nI w;obtain⟨⟨b0,b1,b2,b3⟩,-,bz⟩:=nI J;clear w J;go_wp2;go_ret;exact⟨rfl,⟨i,d,a,p,m,an.o,O.o,ai.o,af.o,Y.o⟩,ac.o⟩
theorem Am{L:Xv}(o:aB T t (l6 S L)){k x:Nat}(c:L[k]?=some x):∃g,t.ao=some ⟨g,0,none⟩/\g<T.heap.size/\T.cell? ⟨g,k,none⟩=some (P7 x):=by
 have i:=(TA.1 c).1;rcases o.XP with ⟨_,b,_⟩ | ⟨g,d,a,e,f,-⟩
 ·have b:L.length=0:=b;omega
 ·exact⟨g,a,aj e,o.cell a k (P7 x) (by show(L.map P7)[k]?=_;rw[Ua,c];rfl)⟩
theorem MB(h:dq ya y9=0):y9.size<=1024:=by
 unfold dq at h;split at h
 ·cases h
 ·split at h
  ·cases h
  ·omega
theorem Rv(h:AL H)(n d:Xs):AL (fJ H n d).2:=by
 unfold fJ;split
 ·exact h
 ·next c =>
  have b:=MB (Decidable.not_not.1 c);split
  ·intro j a;rw[Um]at a;have:=h j a;unfold ak at *;rw[To]at *;rw[UA];split
   ·split
    ·exact b
    ·show(0:Nat)<=_;omega
   ·exact this
  ·split
   ·exact h
   ·intro j a;rw[Tv]at a;replace a:j<H.length+1:=a;unfold ak;rw[To];by_cases e:j<H.length
    ·have:=h j e;unfold ak at this;rw[To]at this;rw[TQ e];exact this
    ·rw[TJ (by omega),show j-H.length=0 by omega];exact b
theorem Nk(h:AL H)(a:Fs):AL (jX H a):=by
 unfold jX;split
 ·next e=>exact(PC e).2
 ·exact h
theorem cG.both{A x p m w o:Nat}(a:cG T S u i g)(B:i.V[M]?=some (z4,z6,H))(I:u (6,M)=Rd z4 H y6 y7 zt)(J:u (7,M)=Rc z6 t H A x zt)(O:ew y3 z4 y0 p m y2)(N:dM y3 z6 y0 y5 w o y2)(U:oL T.heap.size y6 y7 p m)(W:oL T.heap.size A x w o)(K:∀q,y5.XS=some q->t.XS=some q∨T.heap.size<=q)(L:∀q,q∈z4 :: iV p m->q∉z6 :: (y5.XS.toList++iV w o))(k:ae ([z4]++z6 :: t.XS.toList) T y3)(C:AL y0):∃D E,cG y3 S D E (g+1)/\sC u i D E:=by
 have s:=a.sep.put2 (6,M) (7,M) (bm (by decide)) (Rd z4 y0 p m y2) (Rc z6 y5 y0 w o y2) (by
  rw[I,J];refine k.mono (fun q z _=>?_);rcases Ug.1 z with e | e
  ·exact UD _ (by rw[TI.1 e];exact Ue)
  ·refine UV _ ?_;rcases Ub.1 e with e | e
   ·rw[e];exact Ue
   ·exact Ud _ (UD _ e)) O N (fun q z=>by
  rw[I];rcases Ub.1 z with e | e
  ·exact TH (by rw[e];exact Ue)
  ·rcases U.mem e with b | b
   ·exact TH (Ud _ b)
   ·exact TE b) (fun q z=>by
  rw[J];rcases Ub.1 z with e | e
  ·exact TH (by rw[e];exact Ue)
  ·rcases Ug.1 e with e | e
   ·rcases K q (aQ e) with b | b
    ·exact TH (Ud _ (UD _ (by rw[b];simp)))
    ·exact TE b
   ·rcases W.mem e with b | b
    ·exact TH (Ud _ (UV _ b))
    ·exact TE b) L
 have F:∀f:Nat×Nat×Fs->Nat,f (z4,z6,y0)=f (z4,z6,H)->(i.V.set M (z4,z6,y0)).map f=i.V.map f:=fun f C=>by
  rw[VI,C];apply Vq;intro j;rw[UA];by_cases G:M=j
  ·subst G;have:=(TA.1 B).1;rw[Tr rfl,Ua,B];simp[this]
  ·rw[Tp G]
 refine⟨_,{ i with V:=i.V.set M (z4,z6,y0) },⟨s,?_,?_,?_,?_,?_,?_,?_,?_,?_,?_,?_⟩,?_⟩
 ·rw[Tl _ _ (bm (by decide)),Tl _ _ (bm (by decide)),a.w0];unfold Mc.cells;rw[Um]
 ·rw[Tl _ _ (bm (by decide)),Tl _ _ (bm (by decide)),F _ rfl];exact a.x
 ·rw[Tl _ _ (bm (by decide)),Tl _ _ (bm (by decide)),F _ rfl];exact a.m
 ·simp only[ee];exact a.r
 ·simp only[ee];exact a.ls
 ·simp only[ee];exact a.lw
 ·intro j y n d c;replace c:(i.V.set M (z4,z6,y0))[j]?=some (y,n,d):=c;rw[UA]at c;rw[Tl _ _ (bm (by decide))];by_cases e:M=j
  ·subst e;rw[Tr rfl,Tr (TA.1 B).1]at c;cases c
   rw[bA,bA];exact⟨⟨_,_,_,_,_,_,rfl,rfl⟩,C⟩
  ·rw[Tp e]at c;rw[Tl _ _ (vh (Ne.symm e)),Tl _ _ (vh (Ne.symm e)),Tl _ _ (bm (by decide))];exact a.v j y n d c
 ·intro j y n d c;simp only[ee];exact a.more.l j y n d c
 ·exact a.fit
 ·obtain⟨P,Q,R⟩:=a.more.len;exact⟨by show(i.V.set M (z4,z6,y0)).length<=_;rw[Um];exact P,Q,R⟩
 ·exact a.rng
 ·exact⟨fun j M c=>by(repeat rw[pT (by decide) c]),rfl,rfl⟩
theorem je(h:cG f b I w l)(j:∀W,cG W b I w l->Calls prog 12 #[pointer (some ⟨b,0,none⟩),agg #[int i64 y4,int i64 d,int i64 N,int i64 m,string y,string n]] W fun e a=>jh b I w l true e a) :
  Calls prog 10 #[pointer (some ⟨b,0,none⟩),agg #[int i64 y4,int i64 d,int i64 N,int i64 m,string y,string n]] f fun e a=>jh b I w l true e a:=by
 obtain⟨W,c⟩:=bn (f.alloc (.cells #[int i64 y4,int i64 d,int i64 N,int i64 m,string y,string n] 28));obtain⟨i,g,q,-⟩:=h.boxed y4 d N m y n W c.o;obtain⟨r,s,t,u,v,x,z⟩:=dw g;have k:Xr _:=j W i;clear h i g j;go_enter func10,ntmps10;go_upto_region 1 with fail
 rw[c.o];go_wp2_with (go_at_call 12;refine Ts k.o ?_;rintro e A ⟨rfl,p⟩);go_ret;exact⟨rfl,p⟩
structure ir(W:World)(b B:Nat)(I:Nat×Nat->It)(M:Mc)(N:Nat)(k A C D:Int)(s t:Xs):Prop where
 m:cG W b I M N
 o:W.heap[B]?=some (.cells #[int i64 k,int i64 A,int i64 C,int i64 D,string s,string t] 28)
theorem ir.XE{k A C D:Int}(a:ir T S g u i M k A C D ya y9)(h:ae [] T y3):ir y3 S g u i M k A C D ya y9:=⟨a.m.XE h,h.get a.o (by simp)⟩
theorem Lo(h:cG f b I w l)(j:(8<=y4/\y4<=14)∨19<=y4)(s:w.V.length=0) :
  Calls prog 10 #[pointer (some ⟨b,0,none⟩),agg #[int i64 y4,int i64 d,int i64 N,int i64 m,string y,string n]] f fun e v=>jh b I w l true e v:=by
 obtain⟨W,g⟩:=bn (f.alloc (.cells #[int i64 y4,int i64 d,int i64 N,int i64 m,string y,string n] 28));obtain⟨c,i,t,-⟩:=h.boxed y4 d N m y n W g.o;obtain⟨x,z,A,B,C,D,E⟩:=dw i;have p:Xr _:=lW b l I w y4 d N m y n W c j;have q:Xr (cG W b I w l):=c;clear h c i j;go_enter func10,ntmps10;go_upto_region 1 with fail
 rw[g.o];go_upto_region 2 with (go_at_call 12;refine Ts p.o ?_;rintro e k ⟨rfl,u⟩)
 have a:Xr (cG k b I w l):=q.o.XE u;have r:k.cell? ⟨b,0,none⟩=some (slice w.hx.ao w.V.length w.hx.cap):=by rw[ah a.o.XS];rfl
 rw[s]at r;go_wp2;go_ret;exact⟨rfl,_,_,a.o.more,sC.refl _ _⟩
theorem Ii(b:∀q,q∈g :: iV z4 z6->q∉M :: (t.XS.toList++iV y6 y7))(f:∀q,q∈g :: iV z4 z6->q<S)(d:∀q,y5.XS=some q->t.XS=some q∨S<=q):∀q,q∈g :: iV z4 z6->q∉M :: (y5.XS.toList++iV y6 y7):=fun q a i=>by
 rcases Ub.1 i with e | e
 ·exact b q a (by rw[e];exact Ue)
 ·rcases Ug.1 e with e | e
  ·rcases d q (aQ e) with c | c
   ·exact b q a (Ud _ (UD _ (by rw[c];simp)))
   ·have:=f q a;omega
  ·exact b q a (Ud _ (UV _ e))
structure oM(w:World)(I:Nat×Nat->It)(M:Mc)(i x m:Nat)(fs:Fs)(h:Hd)(lo hi lo2 hi2:Nat)(st:Option Nat):Prop where
 v:M.V[i]?=some (x,m,fs)
 i6:I (6,i)=Rd x fs lo hi st
 i7:I (7,i)=Rc m h fs lo2 hi2 st
 ok:AL fs
 p:ew w x fs lo hi st
 d:dM w m fs h lo2 hi2 st
 far:∀q,q∈x :: iV lo hi->q∉m :: (h.XS.toList++iV lo2 hi2)
theorem oM.le(a:oM T u i S g M H t z4 z6 y6 y7 zt):H.length<=4:=by
 obtain⟨b,c,e,f,r⟩:=a.d.anyS;exact r.le
theorem oM.st(a:oM T u i S g M H t z4 z6 y6 y7 zt)(k:Nat)(e:zt=some k):k<H.length/\((gj H k).1==0)=true:=by
 subst e;exact a.p.s.1
theorem oM.XE(a:oM T u i S g M H t z4 z6 y6 y7 zt)(k:ae [] T y3):oM y3 u i S g M H t z4 z6 y6 y7 zt:={ a with p:=a.p.XE k,d:=a.d.XE k }
theorem cG.ver(a:cG T S u i g)(f:M<i.V.length) :
  ∃x m j h r f c b s d e,oM T u i M x m j h r f c b s/\(i.hx.ao=some ⟨d,0,none⟩/\d<T.heap.size/\T.cell? ⟨d,M,none⟩=some (pointer (some ⟨x,0,none⟩)))/\(i.hm.ao=some ⟨e,0,none⟩/\e<T.heap.size/\T.cell? ⟨e,M,none⟩=some (pointer (some ⟨m,0,none⟩))):=by
 obtain⟨⟨x,m,j⟩,l⟩:∃y,i.V[M]?=some y:=⟨i.V[M],Tn f⟩
 obtain⟨⟨s,h,r,f,c,b,n,o⟩,p⟩:=a.v M x m j l;obtain⟨d,B,F,z⟩:=Am a.ownX (k:=M) (x:=x) (by rw[Ua,l];rfl);obtain⟨e,C,G,A⟩:=Am a.ownM (k:=M) (x:=m) (by rw[Ua,l];rfl);have t:=a.sep.all (6,M);have w:=a.sep.all (7,M);rw[n]at t;rw[o]at w;exact⟨x,m,j,h,r,f,c,b,s,d,e,⟨l,n,o,p,t,w,fun q E D=>a.sep.far (6,M) (7,M) (bm (by decide)) q (by rw[n];exact E) (by rw[o];exact D)⟩,⟨B,F,z⟩,C,G,A⟩
theorem RB(h:cG f b I w l)(hV:w.V.length≠0)(hA:rj d)(hN:l<=1073741824) :
  Calls prog 10 #[pointer (some ⟨b,0,none⟩),agg #[int i64 10,int i64 d,int i64 N,int i64 m,string y,string n]] f fun e J=>jh b I w l true e J:=by
 obtain⟨W,L⟩:=bn (f.alloc (.cells #[int i64 10,int i64 d,int i64 N,int i64 m,string y,string n] 28));obtain⟨F,E,af,-⟩:=h.boxed 10 d N m y n W L.o;obtain⟨t,u,Q,R,S,T,z⟩:=dw E;have U:Xr _:=(lW b l I w 10 d N m y n W F (by omega));have X:Xr (ir W b f.heap.size I w l 10 d N m y n):=⟨F,E⟩;have ad:=h.len.1;have k:Xr (∀B,Calls prog 13 #[int i64 d,int i64 w.V.length] B fun e J=>e=returned (int i64 (fy d w.V.length:Nat))/\J=B):=fun B=>fG d w.V.length B hA ⟨by omega,by omega⟩;have s:=hZ d w.V.length (by omega);obtain⟨i,Y⟩:=bn (fy d w.V.length);rw[Y.o]at k s;have ac:((w.V.length:Int)==0)=false:=TU.2 (by omega);have ag:(i:Int)<(w.V.length:Int):=by omega
 clear h F E;go_enter func10,ntmps10;go_upto_region 1 with fail
 rw[L.o];go_upto_region 2 with (go_at_call 12;refine Ts U.o ?_;rintro e K ⟨rfl,P⟩)
 have g:Xr (ir K b f.heap.size I w l 10 d N m y n):=X.o.XE P;clear t u Q R S T z P;obtain⟨t,u,-⟩:=dw g.o.o;have z:=aj g.o.o;have D:K.cell? ⟨b,0,none⟩=some (slice w.hx.ao w.V.length w.hx.cap):=by rw[ah g.o.m.XS];rfl
 go_upto_region 4 with fail
 go_quiet ((go_at_call 13;exact T0 (k.o _)));go_upto_region 5 with fail
 obtain⟨A,r⟩:=bn (K.drewN nq);rw[r.o];have c:Xr (ir A b f.heap.size I w l 10 d N m y n):=g.o.XE (by rw[<-r.o];exact bR.drewN nq);clear t u z D;obtain⟨t,u,Q,R,S,T,z⟩:=dw c.o.o;obtain⟨x,ai,fs,hd,lo,hi,H,G,st,g1,g2,a,⟨M,z1,d1⟩,O,z2,d2⟩:=c.o.m.ver s;have D:A.cell? ⟨b,0,none⟩=some (slice w.hx.ao w.V.length w.hx.cap):=by rw[ah c.o.m.XS];rfl
 have Z:A.cell? ⟨b,1,none⟩=some (slice w.hm.ao w.V.length w.hm.cap):=by rw[ah c.o.m.XS];rfl
 rw[M]at D;rw[O]at Z;have C:Xr _:=Cl x ai fs hd lo hi H G st y A a.p a.d a.ok a.far;have j:Xr _:=a;clear a M O;go_wp2_with (go_at_call 17;refine Ts C.o ?_;rintro e w3 ⟨rfl,⟨al,l1,u1,l3,u3,q1,q2,q3,q4,q5⟩,q6⟩);go_ret;exact⟨rfl,c.o.m.both j.o.v j.o.i6 j.o.i7 q1 q3 q2 q4 (fun q hq=>TH hq) q5 q6 j.o.ok⟩
theorem Sn(h:cG f b I w l)(hV:w.V.length≠0)(hA:rj d)(hN:l<=1073741824)(hs:y.size<=1073741824)(ht:n.size<=1073741824) :
  Calls prog 10 #[pointer (some ⟨b,0,none⟩),agg #[int i64 9,int i64 d,int i64 N,int i64 m,string y,string n]] f fun e w'=>jh b I w l true e w':=by
 obtain⟨W,HW⟩:=bn (f.alloc (.cells #[int i64 9,int i64 d,int i64 N,int i64 m,string y,string n] 28));obtain⟨hM,hB,ax,-⟩:=h.boxed 9 d N m y n W HW.o;obtain⟨P,Q,o2,o3,U,X,D⟩:=dw hB;have HL:Xr _:=(lW b l I w 9 d N m y n W hM (by omega));have HS:Xr (ir W b f.heap.size I w l 9 d N m y n):=⟨hM,hB⟩;have av:=h.len.1;have H:Xr (∀wx,Calls prog 13 #[int i64 d,int i64 w.V.length] wx fun e w'=>e=returned (int i64 (fy d w.V.length:Nat))/\w'=wx):=fun wx=>fG d w.V.length wx hA ⟨by omega,by omega⟩;have L:=hZ d w.V.length (by omega);obtain⟨i,Hi⟩:=bn (fy d w.V.length);rw[Hi.o]at H L;have ar:((w.V.length:Int)==0)=false:=TU.2 (by omega);have az:(i:Int)<(w.V.length:Int):=by omega
 have ad:Xr (cG f b I w l):=h;clear h hM hB;go_enter func10,ntmps10;go_upto_region 1 with fail
 rw[HW.o];go_upto_region 2 with (go_at_call 12;refine Ts HL.o ?_;rintro e w1 ⟨rfl,k1⟩)
 have k:Xr (ir w1 b f.heap.size I w l 9 d N m y n):=HS.o.XE k1;clear P Q o2 o3 U X D k1;obtain⟨P,Q,-⟩:=dw k.o.o;have D:=aj k.o.o;have T:w1.cell? ⟨b,0,none⟩=some (slice w.hx.ao w.V.length w.hx.cap):=by rw[ah k.o.m.XS];rfl
 go_upto_region 4 with fail
 go_quiet ((go_at_call 13;exact T0 (H.o _)));go_upto_region 5 with fail
 obtain⟨S,K⟩:=bn (w1.drewN nq);rw[K.o];have c:Xr (ir S b f.heap.size I w l 9 d N m y n):=k.o.XE (by rw[<-K.o];exact bR.drewN nq);clear P Q D T;obtain⟨P,Q,o2,o3,U,X,D⟩:=dw c.o.o;obtain⟨x,C,A,B,lo,hi,t,s,R,g1,g2,j,⟨e1,z1,d1⟩,e2,z2,d2⟩:=c.o.m.ver L;have T:S.cell? ⟨b,0,none⟩=some (slice w.hx.ao w.V.length w.hx.cap):=by rw[ah c.o.m.XS];rfl
 have c1:S.cell? ⟨b,1,none⟩=some (slice w.hm.ao w.V.length w.hm.cap):=by rw[ah c.o.m.XS];rfl
 rw[e1]at T;rw[e2]at c1;have J:Xr _:=(P0 x y n A lo hi R S j.p hs (by omega));have F:Xr (∀u,dM u C A B t s R->Calls prog 16 #[pointer (some ⟨C,0,none⟩),string y,string n] u _):=fun u hr=>O0 C y n A B t s R u hr hs (by omega);have G:Xr (AL (fJ A y n).2):=Rv j.ok y n;have a:Xr _:=j;have ac:Xr _:=c.o.o;have ai:Xr (x≠f.heap.size):=fun e=>by
  have p:=ad.o.sep.all (6,i);rw[j.i6]at p;have:=ew.lt p x Ue;omega
 generalize mY (fJ A y n).1 R=an at *;generalize fJ A y n=pf at *;obtain⟨r,al⟩:=pf;simp only at J F G;clear j e1 e2;go_upto_region 18 with (go_at_call 15;refine Ts J.o ?_;rintro e u ⟨rfl,Y,Z⟩)
 have af:Xr (dM u C A B t s R):=a.o.d.XR Z (fun q g M=>a.o.far x Ue (by rw[<-TI.1 M];exact g));have ag:Xr (ew u x al lo hi an):=Y;have E:Xr _:=Z;have B3:=Z.get ac.o (by simp;exact fun e=>ai.o e.symm);clear P Q o2 o3 U X D T c1 z1 d1 z2 d2 Y Z;obtain⟨-,-,-,-,U,X,D⟩:=dw B3;clear B3;go_wp2_with (go_at_call 16;refine Ts (F.o u af.o) ?_;rintro e w4 ⟨rfl,h',Y,q4,q5⟩);go_ret;have O:∀q,h'.XS=some q->B.XS=some q∨S.heap.size<=q:=fun q g=>(q5 q g).elim TH (fun z=>TE (TF E.o.size z));have ap:∀q,q∈C :: B.XS.toList->q∈C :: (B.XS.toList++iV t s):=fun q g=>by
  rcases Ub.1 g with e | e
  ·rw[e];exact Ue
  ·exact Ud _ (UD _ e)
 refine⟨rfl,c.o.m.both a.o.v a.o.i6 a.o.i7 (ag.o.XR q4 (fun q g M=>a.o.far q g (ap q M))) Y (TH ⟨rfl,rfl⟩) (TH ⟨rfl,rfl⟩) O (fun q g M=>?_) ((E.o.mono (fun q g _=>UD _ g)).trans (q4.mono (fun q g _=>UV _ g))) G.o⟩;exact Ii a.o.far (a.o.p.lt) O q g M
end Go.Proofs.YtnbhnocdhbcbcaaGreat
