import Derived.Test.YtnbhnocdhbcbcaaGreatK29
namespace Go.Proofs.YtnbhnocdhbcbcaaGreat
open Go.RowKit Tryz
open Value IntKind Ending
set_option maxHeartbeats 0
variable{T y3:World}{t y5:Hd}{H y0:Fs}{S g M z4 z6 y6 y7:Nat}{u:Nat×Nat->It}{i:Mc}{zt y2:Option Nat}{ya y9:Xs}(L v:Nat)(z3:Fs)(z0:Hd)(s D b l:Nat)(y1:Option Nat)(I:Nat×Nat->It)(w:Mc)(y4 d N m:Int)(y n:Xs)(f:World)
theorem Na:(prog.info? 33).map (fun i=>(i.zero,i.size,i.bytes))=some (some (slice none 0 0),1,24):=by kernel_rfl
theorem rG(L:List (Option Nat×Fs))(x:Option Nat×Fs):(⟨(iV L).e,(iV L).size,(iV L).n+1,(iV L).xs++[By x]⟩:eQ)=iV (L++[x]):=by
 simp[iV]
theorem aB.srcO(o:aB T t (cW H)):lC T t.ao H:=by
 intro k d;obtain⟨g,e,c,a,b⟩:=o.srcFi.2 k d;exact⟨g,0,e,c,by rw[Vq];exact a,by rw[Vq];exact b⟩
theorem cD.addL{a c:Option Nat}{fs:Fs}{J:Nat×Nat->It}(h:cD T S u i g)(s:mm fs)(p:fs.length<=g+1)(f:J=ed (ed (ed u (8,i.L.length) (vU a fs)) (4,0) (b8 t (iV (i.L.map (fun l=>(l.1,l.2.2))++[(a,fs)])))) (0,0) (sP S 42 (i.cells.set 3 (slice t.ao (i.L.length+1) t.cap))))(y:ou y3 (ed (ed (ed J (9,i.L.length) (vU c fs)) (5,0) (b8 y5 (iV (i.L.map (fun l=>(l.2.1,l.2.2))++[(c,fs)])))) (0,0) (sP S 42 ((i.cells.set 3 (slice t.ao (i.L.length+1) t.cap)).set 4 (slice y5.ao (i.L.length+1) y5.cap))))) :
  ∃n o,cD y3 S n o (g+1)/\sB u i n o:=by
 refine⟨_,{ i with hl:=t,hc:=y5,L:=i.L++[(a,c,fs)] },⟨y,?_,?_,?_,?_,?_,?_,?_,?_,?_,?_,?_⟩,?_⟩
 ·rw[bA];unfold Mc.cells;rw[Tu];rfl
 ·subst f;simp only[ed];exact h.x
 ·subst f;simp only[ed];exact h.m
 ·subst f;simp only[ed];exact h.r
 ·subst f;rw[Tj _ _ (bm (by decide)),Tj _ _ (bm (by decide)),Tj _ _ (bm (by decide)),Tj _ _ (bm (by decide)),bA,Ug];rfl
 ·rw[Tj _ _ (bm (by decide)),bA,Ug];rfl
 ·intro d x m fs b;subst f;simp only[ed];exact h.v d x m fs b
 ·intro d x m k b;rw[Tj _ _ (bm (by decide)),Tj _ _ (bm (by decide)),Tj _ _ (bm (by decide)),Tj _ _ (bm (by decide)),Tj _ _ (bm (by decide))];replace b:(i.L++[(a,c,fs)])[d]?=some (x,m,k):=b;subst f;rw[Tj _ _ (bm (by decide)),Tj _ _ (bm (by decide))];by_cases e:d<i.L.length
  ·rw[TP e]at b;rw[Tj _ _ (vg (by omega)),Tj _ _ (vg (by omega)),Tj _ _ (bm (by decide)),Tj _ _ (bm (by decide)),Tj _ _ (bm (by decide))];exact h.more.l d x m k b
  ·have q:d=i.L.length:=by
    have:=(Tz.1 b).1;rw[Tu]at this;have:d<i.L.length+1:=this;omega
   subst q;rw[TI (Tp _),Uy]at b;cases b
   rw[bA,bA];exact⟨rfl,rfl,s,p⟩
 ·exact h.fit
 ·refine⟨h.more.len.1,h.more.len.2.1,?_⟩;have:=h.len.2.2
  show(i.L++[(a,c,fs)]).length<=_
  rw[Tu];show _+1<=_;omega
 ·exact h.rng
 ·subst f;exact⟨fun j d w=>by(repeat rw[pS (by decide) w]),rfl,rfl⟩
theorem ou.rowAt{c:List Value}{k:Nat×Nat}{r:eQ}(s:ou T u)(a:u (0,0)=sP S g c)(b:k≠(0,0))(e:u k=b8 t r):T.heap[S]?=some (.cells c.toArray g)/\aB T t r/\S∉t.XR.toList:=by
 refine⟨?_,?_,fun d=>s.far (0,0) k (Ne.symm b) S (by rw[a];exact TH.2 rfl) (by rw[e];exact d)⟩
 ·have:=s.all (0,0);rw[a]at this;exact this
 ·have:=s.all k;rw[e]at this;exact this
set_option maxRecDepth 100000
theorem Ri(h:cD f b I w l)(hN:l<=1073741824) :
  Calls prog 12 #[pointer (some ⟨b,0,none⟩),agg #[int i64 5,int i64 d,int i64 N,int i64 m,string y,string n]] f fun e w'=>jg b I w l true e w':=by
 obtain⟨W,HW⟩:=bn (f.alloc (.cells #[int i64 5,int i64 d,int i64 N,int i64 m,string y,string n] 28));obtain⟨z,hB,ag,-⟩:=h.boxed 5 d N m y n W HW.o;obtain⟨o0,-⟩:=du hB;obtain⟨iX,S,s,t,u⟩:=TY Na;have HM:Xr (cD W b I w l):=z;have af:Xr ((iV (w.L.map (fun g=>(g.1,g.2.2)))).n<=4294967296):=by show(w.L.map _).length<=_;rw[TR];have:=h.len.2.2;omega
 have ad:Xr ((iV (w.L.map (fun g=>(g.2.1,g.2.2)))).n<=4294967296):=by show(w.L.map _).length<=_;rw[TR];have:=h.len.2.2;omega
 have E:Xr ((iV (w.L.map (fun g=>(g.1,g.2.2)))).n=w.L.length):=TR _;have B:Xr ((iV (w.L.map (fun g=>(g.2.1,g.2.2)))).n=w.L.length):=TR _;have Y:Xr (ou W (ed I (8,w.L.length) (vU none []))):=z.sep.put _ _ (ae.refl _ _) ⟨fun _=>rfl,fun b e=>by cases e⟩ (fun q hq=>by cases hq);obtain⟨J,A⟩:∃J,Xr (J=ed I (8,w.L.length) (vU none [])):=⟨_,rfl⟩
 rw[<-A.o]at Y;have K:Xr (J (0,0)=sP b 42 w.cells):=cg (by rw[A.o,Tj _ _ (bm (by decide))];exact z.w0);have M:Xr (J (4,0)=b8 w.hl (iV (w.L.map (fun g=>(g.1,g.2.2))))):=cg (by rw[A.o,Tj _ _ (bm (by decide))];exact z.ls);have ac:Xr (J (5,0)=b8 w.hc (iV (w.L.map (fun g=>(g.2.1,g.2.2))))):=cg (by rw[A.o,Tj _ _ (bm (by decide))];exact z.lw);obtain⟨p1,P,p⟩:=Y.o.rowAt K.o (bm (by decide)) M.o;have C:Xr (W.heap[b]?=some (.cells w.cells.toArray 42)/\b∉w.hl.XR.toList):=⟨p1,p⟩;have c0:W.cell? ⟨b,3,none⟩=some (slice w.hl.ao w.L.length w.hl.cap):=by rw[ah p1];rfl
 clear h z hB p1 p;go_enter func12,ntmps12;go_upto_region 1 with fail
 rw[HW.o];go_upto_region 22 with (at_builtin;refine dx W rfl (.tmp 105) (.tmp 106) 34 rfl iX (slice none 0 0) 24 w.hl (iV (w.L.map (fun g=>(g.1,g.2.2)))) [By (none,[])] underlying34 S s t u rfl TQ (by rw[E.o];simp[Act.eval]) P af.o (by omega) (by simp[Act.eval]) rfl (by simp[By,Value.oneCell']) ?_;intro i w5 x v;rw[rG]at x;have U:=v.XQ.get C.o.1 C.o.2;have f5:=am U;have c5:w5.cell? ⟨b,3,none⟩=some (slice w.hl.ao w.L.length w.hl.cap):=(by rw[ah U];rfl);have z5:=aj U)
 rw[E.o];have Z:Xr _:=(Y.o.grown K.o (bm (by decide)) M.o v x 3 (slice i.ao (w.L.length+1) i.cap));obtain⟨V,X⟩:=bn (w5.setCell ⟨b,3,none⟩ (slice i.ao (w.L.length+1) i.cap));rw[X.o]at Z ⊢;obtain⟨F,O⟩:∃F,F=ed (ed J (4,0) (b8 i (iV (w.L.map (fun g=>(g.1,g.2.2))++[(none,[])])))) (0,0) (sP b 42 (w.cells.set 3 (slice i.ao (w.L.length+1) i.cap))):=⟨_,rfl⟩
 have k:Xr _:=O;clear O;rw[<-k.o]at Z;have S6:Xr (ou V (ed F (9,w.L.length) (vU none []))):=Z.o.put _ _ (ae.refl _ _) ⟨fun _=>rfl,fun b e=>by cases e⟩ (fun q hq=>by cases hq);have G:Xr (ed F (9,w.L.length) (vU none []) (0,0)=sP b 42 (w.cells.set 3 (slice i.ao (w.L.length+1) i.cap))):=cg (by rw[Tj _ _ (bm (by decide)),k.o,bA]);have H:Xr (ed F (9,w.L.length) (vU none []) (5,0)=b8 w.hc (iV (w.L.map (fun g=>(g.2.1,g.2.2))))):=cg (by rw[Tj _ _ (bm (by decide)),k.o,Tj _ _ (bm (by decide)),Tj _ _ (bm (by decide))];exact ac.o);obtain⟨b6,Q,r⟩:=S6.o.rowAt G.o (bm (by decide)) H.o;have D:Xr (V.heap[b]?=some (.cells (w.cells.set 3 (slice i.ao (w.L.length+1) i.cap)).toArray 42)/\b∉w.hc.XR.toList):=⟨b6,r⟩;clear U f5 c5 z5 x v c0 P;have c1:V.cell? ⟨b,4,none⟩=some (slice w.hc.ao w.L.length w.hc.cap):=by rw[ah b6];rfl
 clear b6 r;go_wp2_with (at_builtin;refine dx V rfl (.tmp 115) (.tmp 116) 34 rfl iX (slice none 0 0) 24 w.hc (iV (w.L.map (fun g=>(g.2.1,g.2.2)))) [By (none,[])] underlying34 S s t u rfl TQ (by rw[B.o];simp[Act.eval]) Q ad.o (by omega) (by simp[Act.eval]) rfl (by simp[By,Value.oneCell']) ?_;intro h7 w7 T R;rw[rG]at T;have p7:=R.XQ.get D.o.1 D.o.2;have f7:=am p7;have c7:w7.cell? ⟨b,4,none⟩=some (slice w.hc.ao w.L.length w.hc.cap):=(by rw[ah p7];rfl);have z7:=aj p7;rw[B.o]);go_ret;have S7:=S6.o.grown G.o (bm (by decide)) H.o R T 4 (slice h7.ao (w.L.length+1) h7.cap);exact⟨rfl,HM.o.addL (a:=none) (c:=none) (fs:=[]) (fun j=>⟨by show(0:Nat)<=_;omega,by show(0:Nat)<=_;omega⟩) (Ub _) (by rw[k.o,A.o]) S7⟩
theorem Rh(h:cD f b I w l)(hN:l<=1073741824) :
  Calls prog 12 #[pointer (some ⟨b,0,none⟩),agg #[int i64 4,int i64 d,int i64 N,int i64 m,string y,string n]] f fun e w'=>jg b I w l true e w':=by
 obtain⟨W,HW⟩:=bn (f.alloc (.cells #[int i64 4,int i64 d,int i64 N,int i64 m,string y,string n] 28));obtain⟨hM,hB,az,-⟩:=h.boxed 4 d N m y n W HW.o;obtain⟨o0,-⟩:=du hB;obtain⟨iX,ac,u,v,x⟩:=TY Na;have z:Xr (cD W b I w l):=hM;have A:Xr (w.reg.length<=l):=h.len.2.1;have ax:Xr ((iV (w.L.map (fun g=>(g.1,g.2.2)))).n<=4294967296):=by show(w.L.map _).length<=_;rw[TR];have:=h.len.2.2;omega
 have av:Xr ((iV (w.L.map (fun g=>(g.2.1,g.2.2)))).n<=4294967296):=by show(w.L.map _).length<=_;rw[TR];have:=h.len.2.2;omega
 have O:Xr ((iV (w.L.map (fun g=>(g.1,g.2.2)))).n=w.L.length):=TR _;have H:Xr ((iV (w.L.map (fun g=>(g.2.1,g.2.2)))).n=w.L.length):=TR _;have ai:Xr (Calls prog 30 #[slice w.hr.ao w.reg.length w.hr.cap] W _):=j9 w.hr.ao w.hr.cap w.reg W hM.ownR.srcO (by have:=A.o;omega);have c2:W.cell? ⟨b,2,none⟩=some (slice w.hr.ao w.reg.length w.hr.cap):=by rw[ah hM.XR];rfl
 clear h hM hB;go_enter func12,ntmps12;go_upto_region 1 with fail
 rw[HW.o];go_upto_region 14 with (go_at_call 30;refine Tr ai.o ?_;rintro e w1 ⟨rfl,X,k1⟩)
 have S1:Xr (ou w1 (ed I (8,w.L.length) (vU (some W.heap.size) w.reg))):=z.o.sep.put _ _ (k1.mono (by simp)) ⟨(fun e=>by cases e),(fun q e=>by cases e;exact X)⟩ (fun q hq=>TA (by rw[TH.1 hq];exact Tp _));obtain⟨B1,af⟩:=bn (W.heap.size);rw[af.o]at S1 ⊢;obtain⟨J,E⟩:∃J,Xr (J=ed I (8,w.L.length) (vU (some B1) w.reg)):=⟨_,rfl⟩
 rw[<-E.o]at S1;have R:Xr (J (0,0)=sP b 42 w.cells):=cg (by rw[E.o,Tj _ _ (bm (by decide))];exact z.o.w0);have ap:Xr (J (3,0)=b8 w.hr (cW w.reg)):=cg (by rw[E.o,Tj _ _ (bm (by decide))];exact z.o.r);have S:Xr (J (4,0)=b8 w.hl (iV (w.L.map (fun g=>(g.1,g.2.2))))):=cg (by rw[E.o,Tj _ _ (bm (by decide))];exact z.o.ls);have ar:Xr (J (5,0)=b8 w.hc (iV (w.L.map (fun g=>(g.2.1,g.2.2))))):=cg (by rw[E.o,Tj _ _ (bm (by decide))];exact z.o.lw);obtain⟨p1,U,p⟩:=S1.o.rowAt R.o (bm (by decide)) S.o;have K:Xr (w1.heap[b]?=some (.cells w.cells.toArray 42)/\b∉w.hl.XR.toList):=⟨p1,p⟩;have c0:w1.cell? ⟨b,3,none⟩=some (slice w.hl.ao w.L.length w.hl.cap):=by rw[ah p1];rfl
 clear p1 p c2 k1 X;go_upto_region 16 with (at_builtin;refine dx w1 rfl (.tmp 76) (.tmp 78) 34 rfl iX (slice none 0 0) 24 w.hl (iV (w.L.map (fun g=>(g.1,g.2.2)))) [By (some B1,w.reg)] underlying34 ac u v x rfl TQ (by rw[O.o];simp[Act.eval]) U ax.o (by omega) (by simp[Act.eval]) rfl (by simp[By,Value.oneCell']) ?_;intro i w5 D C;rw[rG]at D;have p5:=C.XQ.get K.o.1 K.o.2;have f5:=am p5;have c5:w5.cell? ⟨b,3,none⟩=some (slice w.hl.ao w.L.length w.hl.cap):=(by rw[ah p5];rfl);have z5:=aj p5)
 rw[O.o];have S5:Xr _:=(S1.o.grown R.o (bm (by decide)) S.o C D 3 (slice i.ao (w.L.length+1) i.cap));obtain⟨w6,al⟩:=bn (w5.setCell ⟨b,3,none⟩ (slice i.ao (w.L.length+1) i.cap));rw[al.o]at S5 ⊢;obtain⟨B,T⟩:∃B,B=ed (ed J (4,0) (b8 i (iV (w.L.map (fun g=>(g.1,g.2.2))++[(some B1,w.reg)])))) (0,0) (sP b 42 (w.cells.set 3 (slice i.ao (w.L.length+1) i.cap))):=⟨_,rfl⟩
 have j:Xr _:=T;clear T;rw[<-j.o]at S5;have an:Xr (B (3,0)=b8 w.hr (cW w.reg)):=cg (by rw[j.o,Tj _ _ (bm (by decide)),Tj _ _ (bm (by decide))];exact ap.o);have k:Xr (B (0,0)=sP b 42 (w.cells.set 3 (slice i.ao (w.L.length+1) i.cap))):=cg (by rw[j.o,bA]);obtain⟨F,t,-⟩:=S5.o.rowAt k.o (bm (by decide)) an.o;have G:Xr (Calls prog 30 #[slice w.hr.ao w.reg.length w.hr.cap] w6 _):=j9 w.hr.ao w.hr.cap w.reg w6 t.srcO (by have:=A.o;omega);clear p5 f5 c5 z5 D C c0 U t;have c2:w6.cell? ⟨b,2,none⟩=some (slice w.hr.ao w.reg.length w.hr.cap):=by rw[ah F];rfl
 clear F;go_upto_region 17 with (go_at_call 30;refine Tr G.o ?_;rintro e w8 ⟨rfl,Y,k2⟩)
 have S6:Xr (ou w8 (ed B (9,w.L.length) (vU (some w6.heap.size) w.reg))):=S5.o.put _ _ (k2.mono (by simp)) ⟨(fun e=>by cases e),(fun q e=>by cases e;exact Y)⟩ (fun q hq=>TA (by rw[TH.1 hq];exact Tp _));obtain⟨B2,ag⟩:=bn (w6.heap.size);rw[ag.o]at S6 ⊢;clear c2 k2 Y;have P:Xr (ed B (9,w.L.length) (vU (some B2) w.reg) (0,0)=sP b 42 (w.cells.set 3 (slice i.ao (w.L.length+1) i.cap))):=cg (by rw[Tj _ _ (bm (by decide))];exact k.o);have Q:Xr (ed B (9,w.L.length) (vU (some B2) w.reg) (5,0)=b8 w.hc (iV (w.L.map (fun g=>(g.2.1,g.2.2))))):=cg (by rw[Tj _ _ (bm (by decide)),j.o,Tj _ _ (bm (by decide)),Tj _ _ (bm (by decide))];exact ar.o);obtain⟨F,V,s⟩:=S6.o.rowAt P.o (bm (by decide)) Q.o;have M:Xr (w8.heap[b]?=some (.cells (w.cells.set 3 (slice i.ao (w.L.length+1) i.cap)).toArray 42)/\b∉w.hc.XR.toList):=⟨F,s⟩;have c1:w8.cell? ⟨b,4,none⟩=some (slice w.hc.ao w.L.length w.hc.cap):=by rw[ah F];rfl
 clear F s;go_wp2_with (at_builtin;refine dx w8 rfl (.tmp 92) (.tmp 94) 34 rfl iX (slice none 0 0) 24 w.hc (iV (w.L.map (fun g=>(g.2.1,g.2.2)))) [By (some B2,w.reg)] underlying34 ac u v x rfl TQ (by rw[H.o];simp[Act.eval]) V av.o (by omega) (by simp[Act.eval]) rfl (by simp[By,Value.oneCell']) ?_;intro h7 w7 ad Z;rw[rG]at ad;have p7:=Z.XQ.get M.o.1 M.o.2;have f7:=am p7;have c7:w7.cell? ⟨b,4,none⟩=some (slice w.hc.ao w.L.length w.hc.cap):=(by rw[ah p7];rfl);have z7:=aj p7;rw[H.o]);go_ret;have S7:=S6.o.grown P.o (bm (by decide)) Q.o Z ad 4 (slice h7.ao (w.L.length+1) h7.cap);exact⟨rfl,z.o.addL (a:=some B1) (c:=some B2) (fs:=w.reg) z.o.fit (by have:=A.o;omega) (by rw[j.o,E.o]) S7⟩
theorem IB{L:List (Option Nat×Option Nat×Fs)}(b:L[S]?=some (zt,y2,H))(f:Option Nat×Option Nat×Fs->Option Nat×Fs)(c:By (f (zt,y2,y0))=By (f (zt,y2,H))):iV ((L.set S (zt,y2,y0)).map f)=iV (L.map f):=by
 unfold iV;have e:((L.set S (zt,y2,y0)).map f).map By=(L.map f).map By:=by
  rw[VH,VH,c];apply Vp;intro j;rw[Uz];by_cases a:S=j
  ·subst a;rw[Tq rfl,T0,T0,b];have:=(Tz.1 b).1;simp[this]
  ·rw[To a]
 rw[e,TR,Ul,TR]
theorem JS(h:mm H)(i:Nat)(b:ya.size<=1073741824)(a:y9.size<=1073741824):mm (H.set i (ya,y9)):=by
 intro j;have:=h j;unfold aG ak at *;rw[Tn]at *;rw[Uz];by_cases e:i=j
 ·subst e;rw[Tq rfl];split
  ·exact⟨b,a⟩
  ·exact⟨by show(0:Nat)<=_;omega,by show(0:Nat)<=_;omega⟩
 ·rw[To e];exact this
theorem cD.wrote(h:cD T S u i g)(d:i.L[M]?=some (zt,y2,H))(n:y0.length=H.length)(s:mm y0)(w:ou y3 (ed (ed u (8,M) (vU zt y0)) (9,M) (vU y2 y0))):∃f k,cD y3 S f k (g+1)/\sB u i f k:=by
 refine⟨_,{ i with L:=i.L.set M (zt,y2,y0) },⟨w,?_,?_,?_,?_,?_,?_,?_,?_,?_,?_,?_⟩,?_⟩
 ·rw[Tj _ _ (bm (by decide)),Tj _ _ (bm (by decide)),h.w0];unfold Mc.cells;rw[Ul]
 ·simp only[ed];exact h.x
 ·simp only[ed];exact h.m
 ·simp only[ed];exact h.r
 ·rw[Tj _ _ (bm (by decide)),Tj _ _ (bm (by decide)),h.ls];congr 1;exact(IB d (fun l=>(l.1,l.2.2)) (by simp only[By,n])).symm
 ·rw[Tj _ _ (bm (by decide)),Tj _ _ (bm (by decide)),h.lw];congr 1;exact(IB d (fun l=>(l.2.1,l.2.2)) (by simp only[By,n])).symm
 ·intro b x m H a;simp only[ed];exact h.v b x m H a
 ·intro b x m c a;replace a:(i.L.set M (zt,y2,y0))[b]?=some (x,m,c):=a;rw[Uz]at a;rw[Tj _ _ (bm (by decide))];by_cases e:M=b
  ·subst e;rw[Tq rfl,Tq (Tz.1 d).1]at a;cases a
   obtain⟨-,-,-,y⟩:=h.l M zt y2 H d;rw[bA,bA];exact⟨rfl,rfl,s,by omega⟩
  ·rw[To e]at a;rw[Tj _ _ (vg (Ne.symm e)),Tj _ _ (vg (Ne.symm e)),Tj _ _ (bm (by decide))];exact h.more.l b x m c a
 ·exact h.fit
 ·obtain⟨o,p,q⟩:=h.more.len;exact⟨o,p,by show(i.L.set M (zt,y2,y0)).length<=_;rw[Ul];exact q⟩
 ·exact h.rng
 ·exact⟨fun j b t=>by(repeat rw[pS (by decide) t]),rfl,rfl⟩
theorem jo.wrote(h:jo T (some S) H)(a:g<H.length)(n d:Xs):jo ((T.setCell ⟨S,g*2,none⟩ (string n)).setCell ⟨S,g*2+1,none⟩ (string d)) (some S) (H.set g (n,d))/\ae [S] T ((T.setCell ⟨S,g*2,none⟩ (string n)).setCell ⟨S,g*2+1,none⟩ (string d)):=by
 refine⟨⟨(fun e=>by cases e),fun q e=>?_⟩,((ae.refl _ _).sl1 _).sl1 _⟩;cases e
 rw[ab (ab (h.XR S rfl) _ _) _ _,Ut,Ut,Ik H g n d a]
theorem jo.cells(h:jo T (some S) H)(d:g<H.length):(T.cell? ⟨S,g*2,none⟩=some (string (aG H g))/\T.cell? ⟨S,g*2+1,none⟩=some (string (ak H g)))/\(∀j,T.frozen? ⟨S,j,none⟩=false)/\S<T.heap.size:=by
 have a:=h.XR S rfl;obtain⟨b,c⟩:=xA H g d;exact⟨⟨by rw[ah a];simpa using b,by rw[ah a];simpa using c⟩,am a,aj a⟩
theorem pd{L:List (Option Nat×Fs)}(o:aB T t (iV L)){k:Nat}{x:Option Nat×Fs}(c:L[k]?=some x):∃g,t.ao=some ⟨g,0,none⟩/\g<T.heap.size/\T.cell? ⟨g,k,none⟩=some (By x):=by
 have i:=(Tz.1 c).1;rcases o.XO with ⟨_,b,_⟩ | ⟨g,d,a,e,f,-⟩
 ·have b:L.length=0:=b;omega
 ·exact⟨g,a,aj e,o.cell a k (By x) (by show(L.map By)[k]?=_;rw[T0,c];rfl)⟩
theorem Rj(h:cD f b I w l)(hN:l<=1073741824)(hA:ri d)(hC:ri N)(hs:y.size<=1073741824)(ht:n.size<=1073741824) :
  Calls prog 12 #[pointer (some ⟨b,0,none⟩),agg #[int i64 6,int i64 d,int i64 N,int i64 m,string y,string n]] f fun e w'=>jg b I w l true e w':=by
 obtain⟨W,HW⟩:=bn (f.alloc (.cells #[int i64 6,int i64 d,int i64 N,int i64 m,string y,string n] 28));obtain⟨v,hB,a7,-⟩:=h.boxed 6 d N m y n W HW.o;obtain⟨o0,o1,o2,o3,X,Y,E⟩:=du hB;have T:=aj v.XR;have H:W.cell? ⟨b,3,none⟩=some (slice w.hl.ao w.L.length w.hl.cap):=by rw[ah v.XR];rfl
 by_cases hL:w.L.length=0
 ·have HF:Xr (cD W b I w l):=v;rw[hL]at H;clear h v hB;go_enter func12,ntmps12;go_upto_region 1 with fail
  rw[HW.o];go_wp2;go_ret;exact⟨rfl,_,_,HF.o.more,sB.refl _ _⟩
 ·have a6:=h.len.2.2;have P:Xr (∀F,Calls prog 13 #[int i64 d,int i64 w.L.length] F fun e w'=>e=returned (int i64 (fw d w.L.length:Nat))/\w'=F):=fun F=>fF d w.L.length F hA ⟨by omega,by omega⟩;have az:=hQ d w.L.length (by omega);obtain⟨k,Hk⟩:=bn (fw d w.L.length);rw[Hk.o]at P az;obtain⟨⟨a,c,j⟩,hk⟩:∃x,w.L[k]?=some x:=⟨w.L[k],Tm az⟩
  have HM:Xr (cD W b I w l):=v;obtain⟨C,D,B,be⟩:=v.l k a c j hk;obtain⟨gl,V,gz,u⟩:=pd v.ownL (k:=k) (x:=(a,j)) (by rw[T0,hk];rfl);replace u:W.cell? ⟨gl,k,none⟩=some (slice (vl a) j.length j.length):=u;rw[V]at H;have bg:(k:Int)<(w.L.length:Int):=by omega
  have a5:(0:Int)<(w.L.length:Int):=by omega
  have ag:Xr _:=hk;have H8:Xr _:=C;have H9:Xr _:=D;by_cases A:j.length=0
  ·rw[A]at u;clear h v hB hk C D B V;go_enter func12,ntmps12;(go_upto_region 1 with fail);rw[HW.o];(go_upto_region 26 with fail);go_quiet ((go_at_call 13;exact TZ (P.o _)));have HF:Xr (cD (W.drewN nq) b I w l):=HM.o.XD (kr0.drewN nq);go_wp2;go_ret;exact⟨rfl,_,_,HF.o.more,sB.refl _ _⟩
  ·have al:Xr (∀F,Calls prog 13 #[int i64 N,int i64 j.length] F fun e w'=>e=returned (int i64 (fw N j.length:Nat))/\w'=F):=fun F=>fF N j.length F hC ⟨by omega,by omega⟩;have r:=hQ N j.length (by omega);obtain⟨i,Hi⟩:=bn (fw N j.length);rw[Hi.o]at al r;have ar:jo W a j:=(by have:=v.sep.all (8,k);rw[C]at this;exact this);have av:jo W c j:=(by have:=v.sep.all (9,k);rw[D]at this;exact this);obtain⟨p,rfl⟩:∃p,a=some p:=by
    cases a with
    | none=>rw[ar.nil rfl]at A;exact absurd rfl A
    | some p=>exact⟨p,rfl⟩
   obtain⟨s,rfl⟩:∃s,c=some s:=by
    cases c with
    | none=>rw[av.nil rfl]at A;exact absurd rfl A
    | some s=>exact⟨s,rfl⟩
   have J:p≠f.heap.size:=by
    intro e;have:=(vU (some p) j).lt f (by have:=h.sep.all (8,k);rw[(h.l k _ _ j hk).1]at this;exact this) p (TH.2 rfl);omega
   have aT:Xr _:=hB;have ac:Xr (mm (j.set i (y,n))):=JS B i hs ht;replace u:W.cell? ⟨gl,k,none⟩=some (slice (some ⟨p,0,none⟩) j.length j.length):=u;have bf:(i:Int)<j.length:=(by omega);have bd:(0:Int)<j.length:=(by omega);have a1:Xr _:=J;have G:Xr (∀t,ae [] W t->(t.cell? ⟨f.heap.size,2,none⟩=some (int i64 N)/\t.cell? ⟨f.heap.size,4,none⟩=some (string y)/\t.cell? ⟨f.heap.size,5,none⟩=some (string n)/\f.heap.size<t.heap.size)/\(t.cell? ⟨b,3,none⟩=some (slice (some ⟨gl,0,none⟩) w.L.length w.hl.cap)/\b<t.heap.size)/\t.cell? ⟨gl,k,none⟩=some (slice (some ⟨p,0,none⟩) j.length j.length)/\gl<t.heap.size):=fun t kw=>by
    have q:∀g i,g<W.heap.size->t.cell? ⟨g,i,none⟩=W.cell? ⟨g,i,none⟩:=fun g i hg=>TN (kw.block g hg (by simp));have z:=kw.size;exact⟨⟨by rw[q _ _ E];exact o2,by rw[q _ _ E];exact X,by rw[q _ _ E];exact Y,by omega⟩,⟨by rw[q _ _ T];exact H,by omega⟩,by rw[q _ _ gz];exact u,by omega⟩
   clear h v hB hk C D B V ar av J;go_enter func12,ntmps12;(go_upto_region 1 with fail);rw[HW.o];(go_upto_region 26 with fail);go_quiet ((go_at_call 13;exact TZ (P.o _)));(go_upto_region 28 with fail);obtain⟨W2,an⟩:=bn (W.drewN nq);rw[an.o];have ad:Xr (ae [] W W2):=(by show ae _ _ _;rw[<-an.o];exact kr0.drewN nq);clear o0 o1 o2 o3 X Y E H T u gz;obtain⟨⟨o2,X,Y,E⟩,⟨H,T⟩,u,gz⟩:=G.o W2 ad.o;go_quiet ((go_at_call 13;exact TZ (al.o _)));(go_upto_region 29 with fail);obtain⟨Z,ap⟩:=bn (W2.drewN nq);rw[ap.o];have K:Xr (ae [] W Z):=(by show ae _ _ _;rw[<-ap.o];exact ad.o.drewN nq);have ai:Xr (cD Z b I w l):=HM.o.XD K.o;have M:Xr (jo Z (some p) j):=(by show jo _ _ _;have:=ai.o.sep.all (8,k);rw[H8.o]at this;exact this);clear o2 X Y E H T u gz;obtain⟨⟨o2,X,Y,E⟩,⟨H,T⟩,u,gz⟩:=G.o Z K.o;obtain⟨⟨d0,d1⟩,df,dz⟩:=M.o.cells r;go_region
   all_goals
    obtain⟨S,Q⟩:=bn (((Z.setCell ⟨p,i*2,none⟩ (string y)).setCell ⟨p,i*2+1,none⟩ (string n)).drew);rw[Q.o];have af:Xr (ae [p] Z S):=(by show ae _ _ _;rw[<-Q.o];exact(M.o.wrote r y n).2.drew);have S4:Xr (ou S (ed I (8,k) (vU (some p) (j.set i (y,n))))):=by
     show ou _ _;refine ai.o.sep.put _ _ (by rw[H8.o];exact af.o) ?_ (fun q hq=>TG (by rw[H8.o];exact hq));rw[<-Q.o];exact(vU _ _).ok [] _ _ (M.o.wrote r y n).1 kr0.drew (by simp)
    have a2:Xr (ed I (8,k) (vU (some p) (j.set i (y,n))) (0,0)=sP b 42 w.cells):=cg (by rw[Tj _ _ (bm (by decide))];exact HM.o.w0);have a3:Xr (ed I (8,k) (vU (some p) (j.set i (y,n))) (5,0)=b8 w.hc (iV (w.L.map (fun a4=>(a4.2.1,a4.2.2))))):=cg (by rw[Tj _ _ (bm (by decide))];exact HM.o.lw);have U:Xr (ed I (8,k) (vU (some p) (j.set i (y,n))) (9,k)=vU (some s) j):=cg (by rw[Tj _ _ (bm (by decide))];exact H9.o);obtain⟨b4,aS,-⟩:=S4.o.rowAt a2.o (bm (by decide)) a3.o;have O:Xr (jo S (some s) j):=(by show jo _ _ _;have:=S4.o.all (9,k);rw[U.o]at this;exact this);obtain⟨gr,ax,rz,rc⟩:=pd aS (k:=k) (x:=(some s,j)) (by rw[T0,ag.o];rfl);replace rc:S.cell? ⟨gr,k,none⟩=some (slice (some ⟨s,0,none⟩) j.length j.length):=rc;have c4:S.cell? ⟨b,4,none⟩=some (slice (some ⟨gr,0,none⟩) w.L.length w.hc.cap):=(by rw[ah b4,<-ax];rfl);clear d0 d1 df dz o2 X Y E H T u gz;obtain⟨⟨d0,d1⟩,df,dz⟩:=O.o.cells r;have T:=aj b4;have B4:=af.o.get (K.o.get aT.o (by simp)) (by simp;exact fun e=>a1.o e.symm);obtain⟨-,-,-,-,X,Y,E⟩:=du B4;clear b4 aS ax B4;(go_upto_region 30 with fail);go_region
    all_goals
     obtain⟨W5,R⟩:=bn (((S.setCell ⟨s,i*2,none⟩ (string y)).setCell ⟨s,i*2+1,none⟩ (string n)).drew);rw[R.o];have a0:Xr (ae [s] S W5):=(by show ae _ _ _;rw[<-R.o];exact(O.o.wrote r y n).2.drew);have S5:Xr (ou W5 (ed (ed I (8,k) (vU (some p) (j.set i (y,n)))) (9,k) (vU (some s) (j.set i (y,n))))):=by
      show ou _ _;refine S4.o.put _ _ (by rw[U.o];exact a0.o) ?_ (fun q hq=>TG (by rw[U.o];exact hq));rw[<-R.o];exact(vU _ _).ok [] _ _ (O.o.wrote r y n).1 kr0.drew (by simp)
     go_wp2;go_ret;exact⟨rfl,HM.o.wrote ag.o Ul ac.o S5.o⟩
theorem Dt{o k:Nat}(h:T.heap[S]?=some (.cells (rS H).toArray 68))(c:o+k<H.length):T.cell? ⟨S,o*2+k*2,none⟩=some (string (aG H (o+k)))/\T.cell? ⟨S,o*2+k*2+1,none⟩=some (string (ak H (o+k))):=by
 obtain⟨a,b⟩:=xA H (o+k) c;rw[WG]at a b;exact⟨by rw[ah h];simpa using a,by rw[ah h];simpa using b⟩
theorem jo.piece(h:T.heap[S]?=some (.cells (rS H).toArray 68))(o n:Nat)(i:o+n<=H.length):lC T (some ⟨S,o*2,none⟩) ((H.drop o).take n):=by
 intro k g;rw[UI,Uw]at g;have e:∀j,j<n->((H.drop o).take n)[j]?=H[o+j]?:=fun j f=>by rw[VW,Tq f,Vy]
 obtain⟨a,b⟩:=Dt h (o:=o) (k:=k) (by omega);have c:aG ((H.drop o).take n) k=aG H (o+k):=by unfold aG;rw[Tn,Tn,e k (by omega)]
 have d:ak ((H.drop o).take n) k=ak H (o+k):=by unfold ak;rw[Tn,Tn,e k (by omega)]
 exact⟨S,o*2,rfl,aj h,by rw[c];exact a,by rw[d];exact b⟩
theorem jo.src{a:Option Nat}(h:jo T a H):lC T (vl a) H:=by
 cases a with
 | none=>rw[h.nil rfl];intro k c;cases c
 | some b =>
  have:=jo.piece (h.XR b rfl) 0 H.length (by omega);rw[Wd,UN,Xm]at this;exact this
theorem mm.piece(h:mm H)(o n:Nat):mm ((H.drop o).take n):=by
 intro j;have a:=h (o+j);unfold aG ak at *;rw[Tn]at *;rw[VW];split
 ·rw[Vy];exact a
 ·exact⟨by show(0:Nat)<=_;omega,by show(0:Nat)<=_;omega⟩
def EP(w:World)(x m:Nat)(h:Hd)(lo hi lo2 hi2:Nat)(st:Option Nat)(fs:Fs)(e:Ending)(w':World):Prop :=
 e=returned (bool true)/\eu w' x fs lo hi st/\(∃h',dL w' m fs h' lo2 hi2 st/\∀q,h'.XR=some q->h.XR=some q∨w.heap.size<=q)/\ae ([x]++m :: h.XR.toList) w w'
theorem lC.srcF(h:T.heap[S]?=some (.cells (rS H).toArray 68)):ob T (some ⟨S,0,none⟩) H.length H:=by
 refine⟨Tp _,fun k c=>?_⟩;obtain⟨a,b⟩:=Dt h (o:=0) (k:=k) (by omega);rw[Xm,Vq]at a b;exact⟨S,rfl,aj h,by simpa using a,by simpa using b⟩
theorem Ds(f e:Fs)(h:Hd)(K I m g:Nat)(x:Option Nat)(w:World)(hx:eu w L f K I x)(J:dL w v f h m g x)(hb:w.heap[s]?=some (.cells (rS e).toArray 68))(C:∀q,q∈L :: iU K I->q∉v :: (h.XR.toList++iU m g))(ag:s≠L)(af:s≠v)(ac:h.XR≠some s)(hl:D+b+l<=e.length)(hN:e.length<=1073741824)(hf:mm e) :
  Calls prog 14 #[pointer (some ⟨L,0,none⟩),pointer (some ⟨v,0,none⟩),slice (some ⟨s,0,none⟩) e.length e.length,int i64 D,int i64 b,int i64 l] w fun r p=>EP w L v h K I m g (mX (dS ((e.drop D).take b)) x) (jW f ((e.drop D).take b)) r p:=by
 have az:Xr (dL w v f h m g x):=J;have HB:Xr _:=hb;have xz:=hx.anyS.lt;have t:((e.drop D).take b).length=b:=by rw[UI,Uw];omega
 have a0:Xr (∀p,ae [] w p->lC p (some ⟨s,0,none⟩) e):=fun p k=>(jo.src (a:=some s) ⟨(fun l=>by cases l),fun q l=>by cases l;exact k.get hb (by simp)⟩)
 have Y:Xr (∀o n,ae [] w o->(b=0∨n=⟨s,D*2,none⟩)->lC o (some n) ((e.drop D).take b)):=fun o n k u=>by
  rcases u with l | l
  ·rw[l];intro j hj;rw[VQ]at hj;cases hj
  ·rw[l];exact jo.piece (k.get hb (by simp)) D b (by omega)
 have ap:Xr (Calls prog 30 #[slice (some ⟨s,0,none⟩) e.length e.length] w _):=j9 _ e.length e w (a0.o w (ae.refl _ _)) hN;have ar:Xr (∀o c n,ae [] w o->(b=0∨n=⟨s,D*2,none⟩)->Calls prog 30 #[slice (some n) b c] o fun l p=>l=returned (slice (some ⟨o.heap.size,0,none⟩) b b)/\p.heap[o.heap.size]?=some (.cells (rS ((e.drop D).take b)).toArray 68)/\ae [] o p):=fun o c n k u=>by
  have:=j9 (some n) c ((e.drop D).take b) o (Y.o o n k u) (by rw[t];omega);rw[t]at this;exact this
 have a4:Xr (∀E c n,ae [] w E->(b=0∨n=⟨s,D*2,none⟩)->Calls prog 31 #[pointer (some ⟨L,0,none⟩),slice (some n) b c] E fun l p=>l=returned (int i64 (dS ((e.drop D).take b)))/\eu p L (jW f ((e.drop D).take b)) K I (mX (dS ((e.drop D).take b)) x)/\ae [L] E p):=fun E c n k u=>by
  have:=DP L f ((e.drop D).take b) (some n) c K I x E (hx.XD k) (Y.o E n k u) (hf.piece D b);rw[t]at this;exact this
 have ax:Xr (∀y B2,dL y v f h m g x->y.heap[B2]?=some (.cells (rS ((e.drop D).take b)).toArray 68)->Calls prog 32 #[pointer (some ⟨v,0,none⟩),slice (some ⟨B2,0,none⟩) b b] y fun l p=>l=returned (int i64 (dS ((e.drop D).take b)))/\∃G,dL p v (jW f ((e.drop D).take b)) G m g (mX (dS ((e.drop D).take b)) x)/\ae (v :: h.XR.toList) y p/\∀q,G.XR=some q->h.XR=some q∨y.heap.size<=q):=fun y B2 hr B=>by
  have:=CS v f ((e.drop D).take b) h m g x (some ⟨B2,0,none⟩) ((e.drop D).take b).length y hr (lC.srcF B) (fun l=>by cases l) (fun n l=>by cases l;exact⟨_,rfl⟩) (fun j _=>hf.piece D b j);rw[t]at this;exact this
 have X:Xr (v<w.heap.size/\∀q,h.XR=some q->q<w.heap.size):=by
  obtain⟨on,p2,p3,p4,hr⟩:=J.anyS;exact⟨aj hr.d,fun q i=>hr.X6.lt i⟩
 generalize jW f ((e.drop D).take b)=F at *;generalize mX (dS ((e.drop D).take b)) x=M at *;generalize dS ((e.drop D).take b)=r at *;generalize (e.drop D).take b=P at *;have bd:(D:Int)+(b:Int)<=e.length:=by omega
 have be:(D:Int)+(b:Int)+(l:Int)<=e.length:=by omega
 have HD:Xr (s≠L/\s≠v/\h.XR≠some s):=⟨ag,af,ac⟩;have V:Xr _:=C;clear hx J hb hf C ag af ac t;have H:(b=0/\l=0/\e.length=D)∨(b=0/\l=0/\¬e.length=D)∨(¬b+l=0/\¬e.length=D):=by omega
 rcases H with ⟨rfl,rfl,rfl⟩ | ⟨rfl,rfl,a6⟩ | ⟨bc,a6⟩
 all_goals
  go_enter func14,ntmps14;go_upto_region 2 with (go_at_call 30;refine Tr ap.o ?_;rintro e1 o ⟨rfl,Z,k1⟩)
  go_upto_region 3 with (go_at_call 30;refine Tr (ar.o o _ _ k1 (by first | exact TG trivial | exact TG rfl | exact TA rfl)) ?_;rintro e2 E ⟨rfl,B,k2⟩)
  have A:Xr _:=k1.trans k2;have an:Xr _:=(k2.get Z (by simp));have ao:Xr _:=B;have a5:Xr (w.heap.size<=o.heap.size):=k1.size;clear Z B k1 k2;go_upto_region 4 with (go_at_call 31;refine Tr (a4.o E _ _ A.o (by first | exact TG trivial | exact TG rfl | exact TA rfl)) ?_;rintro e3 y ⟨rfl,al,N⟩)
  have aS:Xr (dL y v f h m g x):=(az.o.XD A.o).XQ N (fun q i J=>V.o L Ud (by rw[<-TH.1 J];exact i));have Q:Xr _:=(N.get an.o (by simp;omega));have S:Xr _:=(N.get ao.o (by have:=a5.o;simp;omega));have T:Xr _:=(N.get (A.o.get HB.o (by simp)) (by simp;exact HD.o.1));have a2:Xr (eu y L F K I M):=al;have W:Xr _:=((A.o.mono (S':=[L]) (by simp)).trans N);clear al N;go_upto_region 5 with (go_at_call 32;refine Tr (ax.o y _ aS.o S.o) ?_;rintro e4 O ⟨rfl,h4,ai,k4,b4⟩)
  have aT:Xr (∃G,dL O v F G m g M/\∀q,G.XR=some q->h.XR=some q∨w.heap.size<=q):=⟨h4,ai,fun q i=>(b4 q i).elim TG (fun z=>TA (TE W.o.size z))⟩;have a3:Xr (eu O L F K I M):=a2.o.XQ k4 (fun q i J=>V.o q i (by rcases Ua.1 J with l | l;rw[l];exact Ud;exact Uc _ (UC _ l)));have R:Xr _:=(k4.get Q.o (by intro i;rcases Ua.1 i with l | i;have:=X.o.1;omega;have:=X.o.2 _ (aQ i);omega));have U:Xr _:=(k4.get T.o (by intro i;rcases Ua.1 i with l | i;exact HD.o.2.1 l;exact HD.o.2.2 (aQ i)));have av:Xr (ae ([L]++v :: h.XR.toList) w O):=(W.o.mono (S':=[L]++v :: h.XR.toList) (fun q i _=>UC _ i)).trans (k4.mono (fun q i _=>UU _ i));have a1:Xr _:=(oE (some ⟨s,0,none⟩) (some ⟨w.heap.size,0,none⟩) e.length e.length e O (jo.src (a:=some s) ⟨(fun l=>by cases l),fun q l=>by cases l;exact U.o⟩) (jo.src (a:=some w.heap.size) ⟨(fun l=>by cases l),fun q l=>by cases l;exact R.o⟩) (by omega));clear ai k4 b4;go_wp2_with (go_at_call 27;refine Tr a1.o ?_;rintro e5 w5 ⟨rfl,n5,bf⟩);go_ret;have k5:ae [] O (O.drewN n5):=kr0.drewN n5;obtain⟨G,ba,a7⟩:=aT.o;exact⟨rfl,a3.o.XD k5,⟨G,ba.XD k5,a7⟩,av.o.trans (k5.mono (by simp))⟩
theorem FC(hx:eu f L z3 s D y1)(x:dL f v z3 z0 b l y1)(p:∀q,q∈L :: iU s D->q∉v :: (z0.XR.toList++iU b l)) :
  Calls prog 14 #[pointer (some ⟨L,0,none⟩),pointer (some ⟨v,0,none⟩),slice none 0 0,int i64 0,int i64 0,int i64 0] f fun r a=>EP f L v z0 s D b l (mX (dS []) y1) (jW z3 []) r a:=by
 have Q:Xr (dL f v z3 z0 b l y1):=x;have xz:=hx.anyS.lt;have i:Xr (∀(a:World) ao,lC a ao []):=fun a ao j Z=>by cases Z
 have G:mm []:=fun j=>⟨by show(0:Nat)<=_;omega,by show(0:Nat)<=_;omega⟩
 have HC:Xr (∀n,Calls prog 30 #[slice none 0 0] n fun e a=>e=returned (slice (some ⟨n.heap.size,0,none⟩) 0 0)/\a.heap[n.heap.size]?=some (.cells (rS []).toArray 68)/\ae [] n a):=fun n=>j9 none 0 [] n (i.o _ _) (by simp);have W:Xr (∀A,ae [] f A->Calls prog 31 #[pointer (some ⟨L,0,none⟩),slice none 0 0] A fun e a=>e=returned (int i64 (dS []))/\eu a L (jW z3 []) s D (mX (dS []) y1)/\ae [L] A a):=fun A k=>DP L z3 [] none 0 s D y1 A (hx.XD k) (i.o _ _) G;have P:Xr (∀g J,dL g v z3 z0 b l y1->g.heap[J]?=some (.cells (rS []).toArray 68)->Calls prog 32 #[pointer (some ⟨v,0,none⟩),slice (some ⟨J,0,none⟩) 0 0] g fun e a=>e=returned (int i64 (dS []))/\∃w,dL a v (jW z3 []) w b l (mX (dS []) y1)/\ae (v :: z0.XR.toList) g a/\∀q,w.XR=some q->z0.XR=some q∨g.heap.size<=q):=fun g J K m=>by
  exact CS v z3 [] z0 b l y1 (some ⟨J,0,none⟩) 0 g K (lC.srcF m) (fun e=>by cases e) (fun ad e=>by cases e;exact⟨_,rfl⟩) (fun j Z=>by cases Z)
 have ag:Xr (v<f.heap.size/\∀q,z0.XR=some q->q<f.heap.size):=by
  obtain⟨on,p2,p3,p4,K⟩:=x.anyS;exact⟨aj K.d,fun q c=>K.X6.lt c⟩
 generalize jW z3 []=u at *;generalize mX (dS []) y1=y at *;generalize dS []=r at *;have E:Xr _:=p;clear hx x p G;go_enter func14,ntmps14;go_upto_region 2 with (go_at_call 30;refine Tr (HC.o f) ?_;rintro e1 n ⟨rfl,Y,k1⟩)
 go_upto_region 3 with (go_at_call 30;refine Tr (HC.o n) ?_;rintro e2 A ⟨rfl,m,k2⟩)
 have t:Xr _:=k1.trans k2;have N:Xr _:=m;have X:Xr (f.heap.size<=n.heap.size):=k1.size;clear Y m k1 k2;go_upto_region 4 with (go_at_call 31;refine Tr (W.o A t.o) ?_;rintro e3 g ⟨rfl,I,M⟩)
 have R:Xr (dL g v z3 z0 b l y1):=(Q.o.XD t.o).XQ M (fun q c x=>E.o L Ud (by rw[<-TH.1 x];exact c));have C:Xr _:=(M.get N.o (by have:=X.o;simp;omega));have U:Xr (eu g L u s D y):=I;have F:Xr _:=((t.o.mono (S':=[L]) (by simp)).trans M);clear I M;go_upto_region 5 with (go_at_call 32;refine Tr (P.o g _ R.o C.o) ?_;rintro e4 B ⟨rfl,h4,H,k4,b4⟩)
 have S:Xr (∃w,dL B v u w b l y/\∀q,w.XR=some q->z0.XR=some q∨f.heap.size<=q):=⟨h4,H,fun q c=>(b4 q c).elim TG (fun z=>TA (TE F.o.size z))⟩;have V:Xr (eu B L u s D y):=U.o.XQ k4 (fun q c x=>E.o q c (by rcases Ua.1 x with e | e;rw[e];exact Ud;exact Uc _ (UC _ e)));have O:Xr (ae ([L]++v :: z0.XR.toList) f B):=(F.o.mono (S':=[L]++v :: z0.XR.toList) (fun q c _=>UC _ c)).trans (k4.mono (fun q c _=>UU _ c));have T:Xr (Calls prog 27 #[slice none 0 0,slice (some ⟨f.heap.size,0,none⟩) 0 0] B _):=oE none (some ⟨f.heap.size,0,none⟩) 0 0 [] B (i.o _ _) (i.o _ _) (by simp);clear H k4 b4;go_wp2_with (go_at_call 27;refine Tr T.o ?_;rintro e5 w5 ⟨rfl,n5,ai⟩);go_ret;have k5:ae [] B (B.drewN n5):=kr0.drewN n5;obtain⟨w,af,ac⟩:=S.o;exact⟨rfl,V.o.XD k5,⟨w,af.XD k5,ac⟩,O.o.trans (k5.mono (by simp))⟩
def QS(w:World)(x m:Nat)(h:Hd)(lo hi lo2 hi2:Nat)(fs:Fs)(e:Ending)(w':World):Prop :=
 e=returned (bool true)/\(∃st lo1 hi1 lo3 hi3,eu w' x fs lo1 hi1 st/\oK w.heap.size lo hi lo1 hi1/\dL w' m fs h lo3 hi3 st/\oK w.heap.size lo2 hi2 lo3 hi3/\(∀q,q∈x :: iU lo1 hi1->q∉m :: (h.XR.toList++iU lo3 hi3)))/\ae ([x]++m :: h.XR.toList) w w'
theorem Ck(hx:eu f L z3 s D y1)(g:dL f v z3 z0 b l y1)(ap:∀j,j<z3.length->(ak z3 j).size<=1024)(x:∀q,q∈L :: iU s D->q∉v :: (z0.XR.toList++iU b l)) :
  Calls prog 17 #[pointer (some ⟨L,0,none⟩),pointer (some ⟨v,0,none⟩),string n] f fun e H=>QS f L v z0 s D b l z3 e H:=by
 have ao:z3.length<=4:=by obtain⟨on,p2,p3,p4,r⟩:=g.anyS;exact r.le
 obtain⟨⟨r,W,V,c⟩,q,i,h1,h2⟩:=Mv L v z3 z0 s D b l y1 n f hx ao ap;have H1:Xr (Calls prog 37 #[pointer (some ⟨L,0,none⟩),string n] f fun e H=>e=returned (tuple #[agg #[int i64 r,string W,int i64 V,int i64 c],int i64 q])/\(∃d a,eu H L z3 d a i/\oK f.heap.size s D d a)/\ae [L] f H):=h1;have H2:Xr (∀I,dL I v z3 z0 b l y1->Calls prog 38 #[pointer (some ⟨v,0,none⟩),string n] I fun e H=>e=returned (tuple #[agg #[int i64 r,string W,int i64 V,int i64 c],int i64 q])/\(∃d a,dL H v z3 z0 d a i/\oK I.heap.size b l d a)/\ae [v] I H):=h2;have ad:Xr (dL f v z3 z0 b l y1):=g;have y:Xr _:=x;have T:Xr ((∀q,q∈L :: iU s D->q<f.heap.size)/\∀q,q∈v :: (z0.XR.toList++iU b l)->q<f.heap.size):=⟨hx.lt,g.lt⟩;clear h1 h2 hx g x;go_enter func17,ntmps17;go_upto_region 2 with (go_at_call 37;refine Tr H1.o ?_;rintro e1 S ⟨rfl,⟨d,a,G,n1⟩,k1⟩)
 obtain⟨u,C⟩:=bn (S.alloc (.cells #[int i64 r,string W,int i64 V,int i64 c] 87));have A:Xr _:=fH C.o;have X:Xr _:=f8 C.o;have al:Xr (eu u L z3 d a i):=G.XD A.o;have O:Xr (oK f.heap.size s D d a):=n1;have Z:Xr (a<=S.heap.size):=G.z;have N:Xr (ae [L] f u):=k1.trans (A.o.mono (by simp));have ag:Xr (dL u v z3 z0 b l y1):=ad.o.XQ N.o (fun q k g=>y.o L Ud (by rw[<-TH.1 g];exact k));have P:Xr (S.heap.size<=u.heap.size):=A.o.size;have F:Xr (f.heap.size<=S.heap.size):=k1.size;rw[C.o];clear G k1 n1;go_upto_region 3 with (go_at_call 38;refine Tr (H2.o u ag.o) ?_;rintro t I ⟨rfl,⟨p,m,Q,n3⟩,k2⟩)
 obtain⟨U,E⟩:=bn (I.alloc (.cells #[int i64 r,string W,int i64 V,int i64 c] 87));have M:Xr _:=fH E.o;have J:=f8 E.o;have B:Xr (ae [v] u U):=k2.trans (M.o.mono (by simp));have K:Xr (∀q,q∈L :: iU d a->q∈L :: iU s D∨(f.heap.size<=q/\q<S.heap.size)):=fun q k=>by
  rcases Ua.1 k with e | e
  ·exact TG (by rw[e];exact Ud)
  ·rcases O.o.mem e with t | t
   ·exact TG (Uc _ t)
   ·exact TA ⟨t,Tv (oi.1 e).2 Z.o⟩
 have an:Xr (eu U L z3 d a i):=al.o.XQ B.o (fun q k g=>by
  rw[TH.1 g]at k;rcases K.o v k with e | e
  ·exact y.o v e Ud
  ·have:=T.o.2 v Ud;omega)
 have ai:Xr (dL U v z3 z0 p m i):=Q.XD M.o;have af:Xr (oK f.heap.size b l p m):=by
  rcases n3 with e | e
  ·exact TG e
  ·exact TA (TE (TE F.o P.o) e)
 have Y:Xr (∀q,q∈L :: iU d a->q∉v :: (z0.XR.toList++iU p m)):=fun q k g=>by
  have R:∀q,q∈v :: (z0.XR.toList++iU p m)->q∈v :: (z0.XR.toList++iU b l)∨u.heap.size<=q:=fun q g=>by
   rcases Ua.1 g with e | e
   ·exact TG (by rw[e];exact Ud)
   ·rcases Uf.1 e with e | e
    ·exact TG (Uc _ (UC _ e))
    ·rcases oK.mem (z:=u.heap.size) (lo:=b) (hi:=l) n3 e with e | e
     ·exact TG (Uc _ (UU _ e))
     ·exact TA e
  have z1:=F.o;have z2:=P.o;rcases K.o q k with e | e
  ·rcases R q g with t | t
   ·exact y.o q e t
   ·have:=T.o.1 q e;omega
  ·rcases R q g with t | t
   ·have:=T.o.2 q t;omega
   ·omega
 have w:=B.o.get X.o (by have:=T.o.2 v Ud;have:=F.o;simp;omega);have ac:Xr (ae ([L]++v :: z0.XR.toList) f U):=(N.o.mono (fun q k _=>UC _ k)).trans (B.o.mono (fun q k _=>UU _ (by rw[TH.1 k];exact Ud)));rw[E.o];clear Q k2 n3;obtain⟨⟨a0,a1,a2,a3⟩,-,az⟩:=nH w;obtain⟨⟨b0,b1,b2,b3⟩,-,bz⟩:=nH J;clear w J;go_wp2;go_ret;exact⟨rfl,⟨i,d,a,p,m,an.o,O.o,ai.o,af.o,Y.o⟩,ac.o⟩
theorem Al{L:Xv}(o:aB T t (l5 S L)){k x:Nat}(c:L[k]?=some x):∃g,t.ao=some ⟨g,0,none⟩/\g<T.heap.size/\T.cell? ⟨g,k,none⟩=some (P0 x):=by
 have i:=(Tz.1 c).1;rcases o.XO with ⟨_,b,_⟩ | ⟨g,d,a,e,f,-⟩
 ·have b:L.length=0:=b;omega
 ·exact⟨g,a,aj e,o.cell a k (P0 x) (by show(L.map P0)[k]?=_;rw[T0,c];rfl)⟩
theorem MA(h:dn ya y9=0):y9.size<=1024:=by
 unfold dn at h;split at h
 ·cases h
 ·split at h
  ·cases h
  ·omega
theorem Ru(h:AJ H)(n d:Xs):AJ (fI H n d).2:=by
 unfold fI;split
 ·exact h
 ·next c =>
  have b:=MA (Decidable.not_not.1 c);split
  ·intro j a;rw[Ul]at a;have:=h j a;unfold ak at *;rw[Tn]at *;rw[Uz];split
   ·split
    ·exact b
    ·show(0:Nat)<=_;omega
   ·exact this
  ·split
   ·exact h
   ·intro j a;rw[Tu]at a;replace a:j<H.length+1:=a;unfold ak;rw[Tn];by_cases e:j<H.length
    ·have:=h j e;unfold ak at this;rw[Tn]at this;rw[TP e];exact this
    ·rw[TI (by omega),show j-H.length=0 by omega];exact b
theorem Nj(h:AJ H)(a:Fs):AJ (jW H a):=by
 unfold jW;split
 ·next e=>exact(PB e).2
 ·exact h
theorem cD.both{A x p m w o:Nat}(a:cD T S u i g)(B:i.V[M]?=some (z4,z6,H))(I:u (6,M)=Rc z4 H y6 y7 zt)(J:u (7,M)=Rb z6 t H A x zt)(O:eu y3 z4 y0 p m y2)(N:dL y3 z6 y0 y5 w o y2)(U:oK T.heap.size y6 y7 p m)(W:oK T.heap.size A x w o)(K:∀q,y5.XR=some q->t.XR=some q∨T.heap.size<=q)(L:∀q,q∈z4 :: iU p m->q∉z6 :: (y5.XR.toList++iU w o))(k:ae ([z4]++z6 :: t.XR.toList) T y3)(C:AJ y0):∃D E,cD y3 S D E (g+1)/\sB u i D E:=by
 have s:=a.sep.put2 (6,M) (7,M) (bm (by decide)) (Rc z4 y0 p m y2) (Rb z6 y5 y0 w o y2) (by
  rw[I,J];refine k.mono (fun q z _=>?_);rcases Uf.1 z with e | e
  ·exact UC _ (by rw[TH.1 e];exact Ud)
  ·refine UU _ ?_;rcases Ua.1 e with e | e
   ·rw[e];exact Ud
   ·exact Uc _ (UC _ e)) O N (fun q z=>by
  rw[I];rcases Ua.1 z with e | e
  ·exact TG (by rw[e];exact Ud)
  ·rcases U.mem e with b | b
   ·exact TG (Uc _ b)
   ·exact TA b) (fun q z=>by
  rw[J];rcases Ua.1 z with e | e
  ·exact TG (by rw[e];exact Ud)
  ·rcases Uf.1 e with e | e
   ·rcases K q (aQ e) with b | b
    ·exact TG (Uc _ (UC _ (by rw[b];simp)))
    ·exact TA b
   ·rcases W.mem e with b | b
    ·exact TG (Uc _ (UU _ b))
    ·exact TA b) L
 have F:∀f:Nat×Nat×Fs->Nat,f (z4,z6,y0)=f (z4,z6,H)->(i.V.set M (z4,z6,y0)).map f=i.V.map f:=fun f C=>by
  rw[VH,C];apply Vp;intro j;rw[Uz];by_cases G:M=j
  ·subst G;have:=(Tz.1 B).1;rw[Tq rfl,T0,B];simp[this]
  ·rw[To G]
 refine⟨_,{ i with V:=i.V.set M (z4,z6,y0) },⟨s,?_,?_,?_,?_,?_,?_,?_,?_,?_,?_,?_⟩,?_⟩
 ·rw[Tj _ _ (bm (by decide)),Tj _ _ (bm (by decide)),a.w0];unfold Mc.cells;rw[Ul]
 ·rw[Tj _ _ (bm (by decide)),Tj _ _ (bm (by decide)),F _ rfl];exact a.x
 ·rw[Tj _ _ (bm (by decide)),Tj _ _ (bm (by decide)),F _ rfl];exact a.m
 ·simp only[ed];exact a.r
 ·simp only[ed];exact a.ls
 ·simp only[ed];exact a.lw
 ·intro j y n d c;replace c:(i.V.set M (z4,z6,y0))[j]?=some (y,n,d):=c;rw[Uz]at c;rw[Tj _ _ (bm (by decide))];by_cases e:M=j
  ·subst e;rw[Tq rfl,Tq (Tz.1 B).1]at c;cases c
   rw[bA,bA];exact⟨⟨_,_,_,_,_,_,rfl,rfl⟩,C⟩
  ·rw[To e]at c;rw[Tj _ _ (vg (Ne.symm e)),Tj _ _ (vg (Ne.symm e)),Tj _ _ (bm (by decide))];exact a.v j y n d c
 ·intro j y n d c;simp only[ed];exact a.more.l j y n d c
 ·exact a.fit
 ·obtain⟨P,Q,R⟩:=a.more.len;exact⟨by show(i.V.set M (z4,z6,y0)).length<=_;rw[Ul];exact P,Q,R⟩
 ·exact a.rng
 ·exact⟨fun j M c=>by(repeat rw[pS (by decide) c]),rfl,rfl⟩
theorem jd(h:cD f b I w l)(j:∀W,cD W b I w l->Calls prog 12 #[pointer (some ⟨b,0,none⟩),agg #[int i64 y4,int i64 d,int i64 N,int i64 m,string y,string n]] W fun e a=>jg b I w l true e a) :
  Calls prog 10 #[pointer (some ⟨b,0,none⟩),agg #[int i64 y4,int i64 d,int i64 N,int i64 m,string y,string n]] f fun e a=>jg b I w l true e a:=by
 obtain⟨W,c⟩:=bn (f.alloc (.cells #[int i64 y4,int i64 d,int i64 N,int i64 m,string y,string n] 28));obtain⟨i,g,q,-⟩:=h.boxed y4 d N m y n W c.o;obtain⟨r,s,t,u,v,x,z⟩:=du g;have k:Xr _:=j W i;clear h i g j;go_enter func10,ntmps10;go_upto_region 1 with fail
 rw[c.o];go_wp2_with (go_at_call 12;refine Tr k.o ?_;rintro e A ⟨rfl,p⟩);go_ret;exact⟨rfl,p⟩
structure iq(W:World)(b B:Nat)(I:Nat×Nat->It)(M:Mc)(N:Nat)(k A C D:Int)(s t:Xs):Prop where
 m:cD W b I M N
 o:W.heap[B]?=some (.cells #[int i64 k,int i64 A,int i64 C,int i64 D,string s,string t] 28)
theorem iq.XD{k A C D:Int}(a:iq T S g u i M k A C D ya y9)(h:ae [] T y3):iq y3 S g u i M k A C D ya y9:=⟨a.m.XD h,h.get a.o (by simp)⟩
theorem Ln(h:cD f b I w l)(j:(8<=y4/\y4<=14)∨19<=y4)(s:w.V.length=0) :
  Calls prog 10 #[pointer (some ⟨b,0,none⟩),agg #[int i64 y4,int i64 d,int i64 N,int i64 m,string y,string n]] f fun e v=>jg b I w l true e v:=by
 obtain⟨W,g⟩:=bn (f.alloc (.cells #[int i64 y4,int i64 d,int i64 N,int i64 m,string y,string n] 28));obtain⟨c,i,t,-⟩:=h.boxed y4 d N m y n W g.o;obtain⟨x,z,A,B,C,D,E⟩:=du i;have p:Xr _:=lV b l I w y4 d N m y n W c j;have q:Xr (cD W b I w l):=c;clear h c i j;go_enter func10,ntmps10;go_upto_region 1 with fail
 rw[g.o];go_upto_region 2 with (go_at_call 12;refine Tr p.o ?_;rintro e k ⟨rfl,u⟩)
 have a:Xr (cD k b I w l):=q.o.XD u;have r:k.cell? ⟨b,0,none⟩=some (slice w.hx.ao w.V.length w.hx.cap):=by rw[ah a.o.XR];rfl
 rw[s]at r;go_wp2;go_ret;exact⟨rfl,_,_,a.o.more,sB.refl _ _⟩
theorem Ih(b:∀q,q∈g :: iU z4 z6->q∉M :: (t.XR.toList++iU y6 y7))(f:∀q,q∈g :: iU z4 z6->q<S)(d:∀q,y5.XR=some q->t.XR=some q∨S<=q):∀q,q∈g :: iU z4 z6->q∉M :: (y5.XR.toList++iU y6 y7):=fun q a i=>by
 rcases Ua.1 i with e | e
 ·exact b q a (by rw[e];exact Ud)
 ·rcases Uf.1 e with e | e
  ·rcases d q (aQ e) with c | c
   ·exact b q a (Uc _ (UC _ (by rw[c];simp)))
   ·have:=f q a;omega
  ·exact b q a (Uc _ (UU _ e))
structure oL(w:World)(I:Nat×Nat->It)(M:Mc)(i x m:Nat)(fs:Fs)(h:Hd)(lo hi lo2 hi2:Nat)(st:Option Nat):Prop where
 v:M.V[i]?=some (x,m,fs)
 i6:I (6,i)=Rc x fs lo hi st
 i7:I (7,i)=Rb m h fs lo2 hi2 st
 ok:AJ fs
 p:eu w x fs lo hi st
 d:dL w m fs h lo2 hi2 st
 far:∀q,q∈x :: iU lo hi->q∉m :: (h.XR.toList++iU lo2 hi2)
theorem oL.le(a:oL T u i S g M H t z4 z6 y6 y7 zt):H.length<=4:=by
 obtain⟨b,c,e,f,r⟩:=a.d.anyS;exact r.le
theorem oL.st(a:oL T u i S g M H t z4 z6 y6 y7 zt)(k:Nat)(e:zt=some k):k<H.length/\((gi H k).1==0)=true:=by
 subst e;exact a.p.s.1
theorem oL.XD(a:oL T u i S g M H t z4 z6 y6 y7 zt)(k:ae [] T y3):oL y3 u i S g M H t z4 z6 y6 y7 zt:={ a with p:=a.p.XD k,d:=a.d.XD k }
theorem cD.ver(a:cD T S u i g)(f:M<i.V.length) :
  ∃x m j h r f c b s d e,oL T u i M x m j h r f c b s/\(i.hx.ao=some ⟨d,0,none⟩/\d<T.heap.size/\T.cell? ⟨d,M,none⟩=some (pointer (some ⟨x,0,none⟩)))/\(i.hm.ao=some ⟨e,0,none⟩/\e<T.heap.size/\T.cell? ⟨e,M,none⟩=some (pointer (some ⟨m,0,none⟩))):=by
 obtain⟨⟨x,m,j⟩,l⟩:∃y,i.V[M]?=some y:=⟨i.V[M],Tm f⟩
 obtain⟨⟨s,h,r,f,c,b,n,o⟩,p⟩:=a.v M x m j l;obtain⟨d,B,F,z⟩:=Al a.ownX (k:=M) (x:=x) (by rw[T0,l];rfl);obtain⟨e,C,G,A⟩:=Al a.ownM (k:=M) (x:=m) (by rw[T0,l];rfl);have t:=a.sep.all (6,M);have w:=a.sep.all (7,M);rw[n]at t;rw[o]at w;exact⟨x,m,j,h,r,f,c,b,s,d,e,⟨l,n,o,p,t,w,fun q E D=>a.sep.far (6,M) (7,M) (bm (by decide)) q (by rw[n];exact E) (by rw[o];exact D)⟩,⟨B,F,z⟩,C,G,A⟩
theorem Rz(h:cD f b I w l)(hV:w.V.length≠0)(hA:ri d)(hN:l<=1073741824) :
  Calls prog 10 #[pointer (some ⟨b,0,none⟩),agg #[int i64 10,int i64 d,int i64 N,int i64 m,string y,string n]] f fun e J=>jg b I w l true e J:=by
 obtain⟨W,L⟩:=bn (f.alloc (.cells #[int i64 10,int i64 d,int i64 N,int i64 m,string y,string n] 28));obtain⟨F,E,af,-⟩:=h.boxed 10 d N m y n W L.o;obtain⟨t,u,Q,R,S,T,z⟩:=du E;have U:Xr _:=(lV b l I w 10 d N m y n W F (by omega));have X:Xr (iq W b f.heap.size I w l 10 d N m y n):=⟨F,E⟩;have ad:=h.len.1;have k:Xr (∀B,Calls prog 13 #[int i64 d,int i64 w.V.length] B fun e J=>e=returned (int i64 (fw d w.V.length:Nat))/\J=B):=fun B=>fF d w.V.length B hA ⟨by omega,by omega⟩;have s:=hQ d w.V.length (by omega);obtain⟨i,Y⟩:=bn (fw d w.V.length);rw[Y.o]at k s;have ac:((w.V.length:Int)==0)=false:=TT.2 (by omega);have ag:(i:Int)<(w.V.length:Int):=by omega
 clear h F E;go_enter func10,ntmps10;go_upto_region 1 with fail
 rw[L.o];go_upto_region 2 with (go_at_call 12;refine Tr U.o ?_;rintro e K ⟨rfl,P⟩)
 have g:Xr (iq K b f.heap.size I w l 10 d N m y n):=X.o.XD P;clear t u Q R S T z P;obtain⟨t,u,-⟩:=du g.o.o;have z:=aj g.o.o;have D:K.cell? ⟨b,0,none⟩=some (slice w.hx.ao w.V.length w.hx.cap):=by rw[ah g.o.m.XR];rfl
 go_upto_region 4 with fail
 go_quiet ((go_at_call 13;exact TZ (k.o _)));go_upto_region 5 with fail
 obtain⟨A,r⟩:=bn (K.drewN nq);rw[r.o];have c:Xr (iq A b f.heap.size I w l 10 d N m y n):=g.o.XD (by rw[<-r.o];exact kr0.drewN nq);clear t u z D;obtain⟨t,u,Q,R,S,T,z⟩:=du c.o.o;obtain⟨x,ai,fs,hd,lo,hi,H,G,st,g1,g2,a,⟨M,z1,d1⟩,O,z2,d2⟩:=c.o.m.ver s;have D:A.cell? ⟨b,0,none⟩=some (slice w.hx.ao w.V.length w.hx.cap):=by rw[ah c.o.m.XR];rfl
 have Z:A.cell? ⟨b,1,none⟩=some (slice w.hm.ao w.V.length w.hm.cap):=by rw[ah c.o.m.XR];rfl
 rw[M]at D;rw[O]at Z;have C:Xr _:=Ck x ai fs hd lo hi H G st y A a.p a.d a.ok a.far;have j:Xr _:=a;clear a M O;go_wp2_with (go_at_call 17;refine Tr C.o ?_;rintro e w3 ⟨rfl,⟨al,l1,u1,l3,u3,q1,q2,q3,q4,q5⟩,q6⟩);go_ret;exact⟨rfl,c.o.m.both j.o.v j.o.i6 j.o.i7 q1 q3 q2 q4 (fun q hq=>TG hq) q5 q6 j.o.ok⟩
theorem Sk(h:cD f b I w l)(hV:w.V.length≠0)(hA:ri d)(hN:l<=1073741824)(hs:y.size<=1073741824)(ht:n.size<=1073741824) :
  Calls prog 10 #[pointer (some ⟨b,0,none⟩),agg #[int i64 9,int i64 d,int i64 N,int i64 m,string y,string n]] f fun e w'=>jg b I w l true e w':=by
 obtain⟨W,HW⟩:=bn (f.alloc (.cells #[int i64 9,int i64 d,int i64 N,int i64 m,string y,string n] 28));obtain⟨hM,hB,ax,-⟩:=h.boxed 9 d N m y n W HW.o;obtain⟨P,Q,o2,o3,U,X,D⟩:=du hB;have HL:Xr _:=(lV b l I w 9 d N m y n W hM (by omega));have HS:Xr (iq W b f.heap.size I w l 9 d N m y n):=⟨hM,hB⟩;have av:=h.len.1;have H:Xr (∀wx,Calls prog 13 #[int i64 d,int i64 w.V.length] wx fun e w'=>e=returned (int i64 (fw d w.V.length:Nat))/\w'=wx):=fun wx=>fF d w.V.length wx hA ⟨by omega,by omega⟩;have L:=hQ d w.V.length (by omega);obtain⟨i,Hi⟩:=bn (fw d w.V.length);rw[Hi.o]at H L;have ar:((w.V.length:Int)==0)=false:=TT.2 (by omega);have az:(i:Int)<(w.V.length:Int):=by omega
 have ad:Xr (cD f b I w l):=h;clear h hM hB;go_enter func10,ntmps10;go_upto_region 1 with fail
 rw[HW.o];go_upto_region 2 with (go_at_call 12;refine Tr HL.o ?_;rintro e w1 ⟨rfl,k1⟩)
 have k:Xr (iq w1 b f.heap.size I w l 9 d N m y n):=HS.o.XD k1;clear P Q o2 o3 U X D k1;obtain⟨P,Q,-⟩:=du k.o.o;have D:=aj k.o.o;have T:w1.cell? ⟨b,0,none⟩=some (slice w.hx.ao w.V.length w.hx.cap):=by rw[ah k.o.m.XR];rfl
 go_upto_region 4 with fail
 go_quiet ((go_at_call 13;exact TZ (H.o _)));go_upto_region 5 with fail
 obtain⟨S,K⟩:=bn (w1.drewN nq);rw[K.o];have c:Xr (iq S b f.heap.size I w l 9 d N m y n):=k.o.XD (by rw[<-K.o];exact kr0.drewN nq);clear P Q D T;obtain⟨P,Q,o2,o3,U,X,D⟩:=du c.o.o;obtain⟨x,C,A,B,lo,hi,t,s,R,g1,g2,j,⟨e1,z1,d1⟩,e2,z2,d2⟩:=c.o.m.ver L;have T:S.cell? ⟨b,0,none⟩=some (slice w.hx.ao w.V.length w.hx.cap):=by rw[ah c.o.m.XR];rfl
 have c1:S.cell? ⟨b,1,none⟩=some (slice w.hm.ao w.V.length w.hm.cap):=by rw[ah c.o.m.XR];rfl
 rw[e1]at T;rw[e2]at c1;have J:Xr _:=(PZ x y n A lo hi R S j.p hs (by omega));have F:Xr (∀u,dL u C A B t s R->Calls prog 16 #[pointer (some ⟨C,0,none⟩),string y,string n] u _):=fun u hr=>OZ C y n A B t s R u hr hs (by omega);have G:Xr (AJ (fI A y n).2):=Ru j.ok y n;have a:Xr _:=j;have ac:Xr _:=c.o.o;have ai:Xr (x≠f.heap.size):=fun e=>by
  have p:=ad.o.sep.all (6,i);rw[j.i6]at p;have:=eu.lt p x Ud;omega
 generalize mX (fI A y n).1 R=an at *;generalize fI A y n=pf at *;obtain⟨r,al⟩:=pf;simp only at J F G;clear j e1 e2;go_upto_region 18 with (go_at_call 15;refine Tr J.o ?_;rintro e u ⟨rfl,Y,Z⟩)
 have af:Xr (dL u C A B t s R):=a.o.d.XQ Z (fun q g M=>a.o.far x Ud (by rw[<-TH.1 M];exact g));have ag:Xr (eu u x al lo hi an):=Y;have E:Xr _:=Z;have B3:=Z.get ac.o (by simp;exact fun e=>ai.o e.symm);clear P Q o2 o3 U X D T c1 z1 d1 z2 d2 Y Z;obtain⟨-,-,-,-,U,X,D⟩:=du B3;clear B3;go_wp2_with (go_at_call 16;refine Tr (F.o u af.o) ?_;rintro e w4 ⟨rfl,h',Y,q4,q5⟩);go_ret;have O:∀q,h'.XR=some q->B.XR=some q∨S.heap.size<=q:=fun q g=>(q5 q g).elim TG (fun z=>TA (TE E.o.size z));have ap:∀q,q∈C :: B.XR.toList->q∈C :: (B.XR.toList++iU t s):=fun q g=>by
  rcases Ua.1 g with e | e
  ·rw[e];exact Ud
  ·exact Uc _ (UC _ e)
 refine⟨rfl,c.o.m.both a.o.v a.o.i6 a.o.i7 (ag.o.XQ q4 (fun q g M=>a.o.far q g (ap q M))) Y (TG ⟨rfl,rfl⟩) (TG ⟨rfl,rfl⟩) O (fun q g M=>?_) ((E.o.mono (fun q g _=>UC _ g)).trans (q4.mono (fun q g _=>UU _ g))) G.o⟩;exact Ih a.o.far (a.o.p.lt) O q g M
end Go.Proofs.YtnbhnocdhbcbcaaGreat
