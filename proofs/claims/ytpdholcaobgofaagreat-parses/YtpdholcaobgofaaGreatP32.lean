import Derived.Test.YtpdholcaobgofaaGreatP31
namespace Go.Proofs.YtpdholcaobgofaaGreat
open Go.RowKit Tryz
open Value IntKind Ending
set_option maxHeartbeats 0
variable{T y1:World}{t y3:Hd}{H zf:Fs}{S g M z4 z6 y4 y5:Nat}{u:Nat×Nat->It}{i:Mc}{z8 y0:Option Nat}{y7 y6:Xr}(L v:Nat)(z3:Fs)(z0:Hd)(s D b l:Nat)(zt:Option Nat)(I:Nat×Nat->It)(w:Mc)(y2 d N m:Int)(y n:Xr)(f:World)
theorem RV:(prog.info? 33).map (fun i=>(i.zero,i.size,i.bytes))=some (some (slice none 0 0),1,24):=by kernel_rfl
theorem ug(L:List (Option Nat×Fs))(x:Option Nat×Fs):(⟨(jB L).e,(jB L).size,(jB L).n+1,(jB L).xs++[EJ x]⟩:eD)=jB (L++[x]):=by
 simp[jB]
theorem aD.srcO(o:aD T t (dq H)):mC T t.ao H:=by
 intro k d;obtain⟨g,e,c,a,b⟩:=o.srcFi.2 k d;exact⟨g,0,e,c,by rw[Zf];exact a,by rw[Zf];exact b⟩
theorem cU.addL{a c:Option Nat}{fs:Fs}{J:Nat×Nat->It}(h:cU T S u i g)(s:nH fs)(p:fs.length<=g+1)(f:J=gC (gC (gC u (8,i.L.length) (yA a fs)) (4,0) (de t (jB (i.L.map (fun l=>(l.1,l.2.2))++[(a,fs)])))) (0,0) (vk S 42 (i.cells.set 3 (slice t.ao (i.L.length+1) t.cap))))(y:qq y1 (gC (gC (gC J (9,i.L.length) (yA c fs)) (5,0) (de y3 (jB (i.L.map (fun l=>(l.2.1,l.2.2))++[(c,fs)])))) (0,0) (vk S 42 ((i.cells.set 3 (slice t.ao (i.L.length+1) t.cap)).set 4 (slice y3.ao (i.L.length+1) y3.cap))))) :
  ∃n o,cU y1 S n o (g+1)/\uT u i n o:=by
 refine⟨_,{ i with hl:=t,hc:=y3,L:=i.L++[(a,c,fs)] },⟨y,?_,?_,?_,?_,?_,?_,?_,?_,?_,?_,?_⟩,?_⟩
 ·rw[b9];unfold Mc.cells;rw[XC];rfl
 ·subst f;simp only[gC];exact h.x
 ·subst f;simp only[gC];exact h.m
 ·subst f;simp only[gC];exact h.r
 ·subst f;rw[aA _ _ (bJ (by decide)),aA _ _ (bJ (by decide)),aA _ _ (bJ (by decide)),aA _ _ (bJ (by decide)),b9,Yj];rfl
 ·rw[aA _ _ (bJ (by decide)),b9,Yj];rfl
 ·intro d x m fs b;subst f;simp only[gC];exact h.v d x m fs b
 ·intro d x m k b;rw[aA _ _ (bJ (by decide)),aA _ _ (bJ (by decide)),aA _ _ (bJ (by decide)),aA _ _ (bJ (by decide)),aA _ _ (bJ (by decide))];replace b:(i.L++[(a,c,fs)])[d]?=some (x,m,k):=b;subst f;rw[aA _ _ (bJ (by decide)),aA _ _ (bJ (by decide))];by_cases e:d<i.L.length
  ·rw[XP e]at b;rw[aA _ _ (xG (by omega)),aA _ _ (xG (by omega)),aA _ _ (bJ (by decide)),aA _ _ (bJ (by decide)),aA _ _ (bJ (by decide))];exact h.more.l d x m k b
  ·have q:d=i.L.length:=by
    have:=(XL.1 b).1;rw[XC]at this;have:d<i.L.length+1:=this;omega
   subst q;rw[XO (Xy _),YA]at b;cases b
   rw[b9,b9];exact⟨rfl,rfl,s,p⟩
 ·exact h.fit
 ·refine⟨h.more.len.1,h.more.len.2.1,?_⟩;have:=h.len.2.2
  show(i.L++[(a,c,fs)]).length<=_
  rw[XC];show _+1<=_;omega
 ·exact h.rng
 ·subst f;exact⟨fun j d w=>by(repeat rw[rP (by decide) w]),rfl,rfl⟩
theorem qq.rowAt{c:List Value}{k:Nat×Nat}{r:eD}(s:qq T u)(a:u (0,0)=vk S g c)(b:k≠(0,0))(e:u k=de t r):T.heap[S]?=some (.cells c.toArray g)/\aD T t r/\S∉t.Zbx.toList:=by
 refine⟨?_,?_,fun d=>s.far (0,0) k (Ne.symm b) S (by rw[a];exact XH.2 rfl) (by rw[e];exact d)⟩
 ·have:=s.all (0,0);rw[a]at this;exact this
 ·have:=s.all k;rw[e]at this;exact this
set_option maxRecDepth 100000
theorem zaQ(h:cU f b I w l)(hN:l<=1073741824) :
  Calls prog 10 #[pointer (some ⟨b,0,none⟩),agg #[int i64 5,int i64 d,int i64 N,int i64 m,string y,string n]] f fun e w'=>jS b I w l true e w':=by
 obtain⟨W,HW⟩:=aP (f.alloc (.cells #[int i64 5,int i64 d,int i64 N,int i64 m,string y,string n] 28));obtain⟨z,hB,ag,-⟩:=h.boxed 5 d N m y n W HW.o;obtain⟨o0,-⟩:=dG hB;obtain⟨iX,S,s,t,u⟩:=XV RV;have HM:Xq (cU W b I w l):=z;have af:Xq ((jB (w.L.map (fun g=>(g.1,g.2.2)))).n<=4294967296):=by show(w.L.map _).length<=_;rw[XZ];have:=h.len.2.2;omega
 have ad:Xq ((jB (w.L.map (fun g=>(g.2.1,g.2.2)))).n<=4294967296):=by show(w.L.map _).length<=_;rw[XZ];have:=h.len.2.2;omega
 have E:Xq ((jB (w.L.map (fun g=>(g.1,g.2.2)))).n=w.L.length):=XZ _;have B:Xq ((jB (w.L.map (fun g=>(g.2.1,g.2.2)))).n=w.L.length):=XZ _;have Y:Xq (qq W (gC I (8,w.L.length) (yA none []))):=z.sep.put _ _ (aa.refl _ _) ⟨fun _=>rfl,fun b e=>by cases e⟩ (fun q hq=>by cases hq);obtain⟨J,A⟩:∃J,Xq (J=gC I (8,w.L.length) (yA none [])):=⟨_,rfl⟩
 rw[<-A.o]at Y;have K:Xq (J (0,0)=vk b 42 w.cells):=cm (by rw[A.o,aA _ _ (bJ (by decide))];exact z.w0);have M:Xq (J (4,0)=de w.hl (jB (w.L.map (fun g=>(g.1,g.2.2))))):=cm (by rw[A.o,aA _ _ (bJ (by decide))];exact z.ls);have ac:Xq (J (5,0)=de w.hc (jB (w.L.map (fun g=>(g.2.1,g.2.2))))):=cm (by rw[A.o,aA _ _ (bJ (by decide))];exact z.lw);obtain⟨p1,P,p⟩:=Y.o.rowAt K.o (bJ (by decide)) M.o;have C:Xq (W.heap[b]?=some (.cells w.cells.toArray 42)/\b∉w.hl.Zbx.toList):=⟨p1,p⟩;have c0:W.cell? ⟨b,3,none⟩=some (slice w.hl.ao w.L.length w.hl.cap):=by rw[ab p1];rfl
 clear h z hB p1 p;go_enter func10,ntmps10;go_upto_region 1 with fail
 rw[HW.o];go_upto_region 22 with (at_builtin;refine dL W rfl (.tmp 105) (.tmp 106) 34 rfl iX (slice none 0 0) 24 w.hl (jB (w.L.map (fun g=>(g.1,g.2.2)))) [EJ (none,[])] underlying34 S s t u rfl XR (by rw[E.o];simp[Act.eval]) P af.o (by omega) (by simp[Act.eval]) rfl (by simp[EJ,Value.oneCell']) ?_;intro i w5 x v;rw[ug]at x;have U:=v.Zbw.get C.o.1 C.o.2;have f5:=zcW U;have c5:w5.cell? ⟨b,3,none⟩=some (slice w.hl.ao w.L.length w.hl.cap):=(by rw[ab U];rfl);have z5:=ah U)
 rw[E.o];have Z:Xq _:=(Y.o.grown K.o (bJ (by decide)) M.o v x 3 (slice i.ao (w.L.length+1) i.cap));obtain⟨V,X⟩:=aP (w5.setCell ⟨b,3,none⟩ (slice i.ao (w.L.length+1) i.cap));rw[X.o]at Z ⊢;obtain⟨F,O⟩:∃F,F=gC (gC J (4,0) (de i (jB (w.L.map (fun g=>(g.1,g.2.2))++[(none,[])])))) (0,0) (vk b 42 (w.cells.set 3 (slice i.ao (w.L.length+1) i.cap))):=⟨_,rfl⟩
 have k:Xq _:=O;clear O;rw[<-k.o]at Z;have S6:Xq (qq V (gC F (9,w.L.length) (yA none []))):=Z.o.put _ _ (aa.refl _ _) ⟨fun _=>rfl,fun b e=>by cases e⟩ (fun q hq=>by cases hq);have G:Xq (gC F (9,w.L.length) (yA none []) (0,0)=vk b 42 (w.cells.set 3 (slice i.ao (w.L.length+1) i.cap))):=cm (by rw[aA _ _ (bJ (by decide)),k.o,b9]);have H:Xq (gC F (9,w.L.length) (yA none []) (5,0)=de w.hc (jB (w.L.map (fun g=>(g.2.1,g.2.2))))):=cm (by rw[aA _ _ (bJ (by decide)),k.o,aA _ _ (bJ (by decide)),aA _ _ (bJ (by decide))];exact ac.o);obtain⟨b6,Q,r⟩:=S6.o.rowAt G.o (bJ (by decide)) H.o;have D:Xq (V.heap[b]?=some (.cells (w.cells.set 3 (slice i.ao (w.L.length+1) i.cap)).toArray 42)/\b∉w.hc.Zbx.toList):=⟨b6,r⟩;clear U f5 c5 z5 x v c0 P;have c1:V.cell? ⟨b,4,none⟩=some (slice w.hc.ao w.L.length w.hc.cap):=by rw[ab b6];rfl
 clear b6 r;go_wp2_with (at_builtin;refine dL V rfl (.tmp 115) (.tmp 116) 34 rfl iX (slice none 0 0) 24 w.hc (jB (w.L.map (fun g=>(g.2.1,g.2.2)))) [EJ (none,[])] underlying34 S s t u rfl XR (by rw[B.o];simp[Act.eval]) Q ad.o (by omega) (by simp[Act.eval]) rfl (by simp[EJ,Value.oneCell']) ?_;intro h7 w7 T R;rw[ug]at T;have p7:=R.Zbw.get D.o.1 D.o.2;have f7:=zcW p7;have c7:w7.cell? ⟨b,4,none⟩=some (slice w.hc.ao w.L.length w.hc.cap):=(by rw[ab p7];rfl);have z7:=ah p7;rw[B.o]);go_ret;have S7:=S6.o.grown G.o (bJ (by decide)) H.o R T 4 (slice h7.ao (w.L.length+1) h7.cap);exact⟨rfl,HM.o.addL (a:=none) (c:=none) (fs:=[]) (fun j=>⟨by show(0:Nat)<=_;omega,by show(0:Nat)<=_;omega⟩) (XX _) (by rw[k.o,A.o]) S7⟩
theorem zaP(h:cU f b I w l)(hN:l<=1073741824) :
  Calls prog 10 #[pointer (some ⟨b,0,none⟩),agg #[int i64 4,int i64 d,int i64 N,int i64 m,string y,string n]] f fun e w'=>jS b I w l true e w':=by
 obtain⟨W,HW⟩:=aP (f.alloc (.cells #[int i64 4,int i64 d,int i64 N,int i64 m,string y,string n] 28));obtain⟨hM,hB,av,-⟩:=h.boxed 4 d N m y n W HW.o;obtain⟨o0,-⟩:=dG hB;obtain⟨iX,ac,u,v,x⟩:=XV RV;have z:Xq (cU W b I w l):=hM;have A:Xq (w.reg.length<=l):=h.len.2.1;have ar:Xq ((jB (w.L.map (fun g=>(g.1,g.2.2)))).n<=4294967296):=by show(w.L.map _).length<=_;rw[XZ];have:=h.len.2.2;omega
 have aq:Xq ((jB (w.L.map (fun g=>(g.2.1,g.2.2)))).n<=4294967296):=by show(w.L.map _).length<=_;rw[XZ];have:=h.len.2.2;omega
 have O:Xq ((jB (w.L.map (fun g=>(g.1,g.2.2)))).n=w.L.length):=XZ _;have H:Xq ((jB (w.L.map (fun g=>(g.2.1,g.2.2)))).n=w.L.length):=XZ _;have ai:Xq (Calls prog 28 #[slice w.hr.ao w.reg.length w.hr.cap] W _):=lk w.hr.ao w.hr.cap w.reg W hM.ownR.srcO (by have:=A.o;omega);have c2:W.cell? ⟨b,2,none⟩=some (slice w.hr.ao w.reg.length w.hr.cap):=by rw[ab hM.Zbx];rfl
 clear h hM hB;go_enter func10,ntmps10;go_upto_region 1 with fail
 rw[HW.o];go_upto_region 14 with (go_at_call 28;refine Xx ai.o ?_;rintro e w1 ⟨rfl,X,k1⟩)
 have S1:Xq (qq w1 (gC I (8,w.L.length) (yA (some W.heap.size) w.reg))):=z.o.sep.put _ _ (k1.mono (by simp)) ⟨(fun e=>by cases e),(fun q e=>by cases e;exact X)⟩ (fun q hq=>XK (by rw[XH.1 hq];exact Xy _));obtain⟨B1,af⟩:=aP (W.heap.size);rw[af.o]at S1 ⊢;obtain⟨J,E⟩:∃J,Xq (J=gC I (8,w.L.length) (yA (some B1) w.reg)):=⟨_,rfl⟩
 rw[<-E.o]at S1;have R:Xq (J (0,0)=vk b 42 w.cells):=cm (by rw[E.o,aA _ _ (bJ (by decide))];exact z.o.w0);have an:Xq (J (3,0)=de w.hr (dq w.reg)):=cm (by rw[E.o,aA _ _ (bJ (by decide))];exact z.o.r);have S:Xq (J (4,0)=de w.hl (jB (w.L.map (fun g=>(g.1,g.2.2))))):=cm (by rw[E.o,aA _ _ (bJ (by decide))];exact z.o.ls);have ap:Xq (J (5,0)=de w.hc (jB (w.L.map (fun g=>(g.2.1,g.2.2))))):=cm (by rw[E.o,aA _ _ (bJ (by decide))];exact z.o.lw);obtain⟨p1,U,p⟩:=S1.o.rowAt R.o (bJ (by decide)) S.o;have K:Xq (w1.heap[b]?=some (.cells w.cells.toArray 42)/\b∉w.hl.Zbx.toList):=⟨p1,p⟩;have c0:w1.cell? ⟨b,3,none⟩=some (slice w.hl.ao w.L.length w.hl.cap):=by rw[ab p1];rfl
 clear p1 p c2 k1 X;go_upto_region 16 with (at_builtin;refine dL w1 rfl (.tmp 76) (.tmp 78) 34 rfl iX (slice none 0 0) 24 w.hl (jB (w.L.map (fun g=>(g.1,g.2.2)))) [EJ (some B1,w.reg)] underlying34 ac u v x rfl XR (by rw[O.o];simp[Act.eval]) U ar.o (by omega) (by simp[Act.eval]) rfl (by simp[EJ,Value.oneCell']) ?_;intro i w5 D C;rw[ug]at D;have p5:=C.Zbw.get K.o.1 K.o.2;have f5:=zcW p5;have c5:w5.cell? ⟨b,3,none⟩=some (slice w.hl.ao w.L.length w.hl.cap):=(by rw[ab p5];rfl);have z5:=ah p5)
 rw[O.o];have S5:Xq _:=(S1.o.grown R.o (bJ (by decide)) S.o C D 3 (slice i.ao (w.L.length+1) i.cap));obtain⟨w6,al⟩:=aP (w5.setCell ⟨b,3,none⟩ (slice i.ao (w.L.length+1) i.cap));rw[al.o]at S5 ⊢;obtain⟨B,T⟩:∃B,B=gC (gC J (4,0) (de i (jB (w.L.map (fun g=>(g.1,g.2.2))++[(some B1,w.reg)])))) (0,0) (vk b 42 (w.cells.set 3 (slice i.ao (w.L.length+1) i.cap))):=⟨_,rfl⟩
 have j:Xq _:=T;clear T;rw[<-j.o]at S5;have am:Xq (B (3,0)=de w.hr (dq w.reg)):=cm (by rw[j.o,aA _ _ (bJ (by decide)),aA _ _ (bJ (by decide))];exact an.o);have k:Xq (B (0,0)=vk b 42 (w.cells.set 3 (slice i.ao (w.L.length+1) i.cap))):=cm (by rw[j.o,b9]);obtain⟨F,t,-⟩:=S5.o.rowAt k.o (bJ (by decide)) am.o;have G:Xq (Calls prog 28 #[slice w.hr.ao w.reg.length w.hr.cap] w6 _):=lk w.hr.ao w.hr.cap w.reg w6 t.srcO (by have:=A.o;omega);clear p5 f5 c5 z5 D C c0 U t;have c2:w6.cell? ⟨b,2,none⟩=some (slice w.hr.ao w.reg.length w.hr.cap):=by rw[ab F];rfl
 clear F;go_upto_region 17 with (go_at_call 28;refine Xx G.o ?_;rintro e w8 ⟨rfl,Y,k2⟩)
 have S6:Xq (qq w8 (gC B (9,w.L.length) (yA (some w6.heap.size) w.reg))):=S5.o.put _ _ (k2.mono (by simp)) ⟨(fun e=>by cases e),(fun q e=>by cases e;exact Y)⟩ (fun q hq=>XK (by rw[XH.1 hq];exact Xy _));obtain⟨B2,ag⟩:=aP (w6.heap.size);rw[ag.o]at S6 ⊢;clear c2 k2 Y;have P:Xq (gC B (9,w.L.length) (yA (some B2) w.reg) (0,0)=vk b 42 (w.cells.set 3 (slice i.ao (w.L.length+1) i.cap))):=cm (by rw[aA _ _ (bJ (by decide))];exact k.o);have Q:Xq (gC B (9,w.L.length) (yA (some B2) w.reg) (5,0)=de w.hc (jB (w.L.map (fun g=>(g.2.1,g.2.2))))):=cm (by rw[aA _ _ (bJ (by decide)),j.o,aA _ _ (bJ (by decide)),aA _ _ (bJ (by decide))];exact ap.o);obtain⟨F,V,s⟩:=S6.o.rowAt P.o (bJ (by decide)) Q.o;have M:Xq (w8.heap[b]?=some (.cells (w.cells.set 3 (slice i.ao (w.L.length+1) i.cap)).toArray 42)/\b∉w.hc.Zbx.toList):=⟨F,s⟩;have c1:w8.cell? ⟨b,4,none⟩=some (slice w.hc.ao w.L.length w.hc.cap):=by rw[ab F];rfl
 clear F s;go_wp2_with (at_builtin;refine dL w8 rfl (.tmp 92) (.tmp 94) 34 rfl iX (slice none 0 0) 24 w.hc (jB (w.L.map (fun g=>(g.2.1,g.2.2)))) [EJ (some B2,w.reg)] underlying34 ac u v x rfl XR (by rw[H.o];simp[Act.eval]) V aq.o (by omega) (by simp[Act.eval]) rfl (by simp[EJ,Value.oneCell']) ?_;intro h7 w7 ad Z;rw[ug]at ad;have p7:=Z.Zbw.get M.o.1 M.o.2;have f7:=zcW p7;have c7:w7.cell? ⟨b,4,none⟩=some (slice w.hc.ao w.L.length w.hc.cap):=(by rw[ab p7];rfl);have z7:=ah p7;rw[H.o]);go_ret;have S7:=S6.o.grown P.o (bJ (by decide)) Q.o Z ad 4 (slice h7.ao (w.L.length+1) h7.cap);exact⟨rfl,z.o.addL (a:=some B1) (c:=some B2) (fs:=w.reg) z.o.fit (by have:=A.o;omega) (by rw[j.o,E.o]) S7⟩
theorem MH{L:List (Option Nat×Option Nat×Fs)}(b:L[S]?=some (z8,y0,H))(f:Option Nat×Option Nat×Fs->Option Nat×Fs)(c:EJ (f (z8,y0,zf))=EJ (f (z8,y0,H))):jB ((L.set S (z8,y0,zf)).map f)=jB (L.map f):=by
 unfold jB;have e:((L.set S (z8,y0,zf)).map f).map EJ=(L.map f).map EJ:=by
  rw[Zm,Zm,c];apply YR;intro j;rw[Yv];by_cases a:S=j
  ·subst a;rw[XA rfl,Yi,Yi,b];have:=(XL.1 b).1;simp[this]
  ·rw[Xz a]
 rw[e,XZ,Yq,XZ]
theorem N6(h:nH H)(i:Nat)(b:y7.size<=1073741824)(a:y6.size<=1073741824):nH (H.set i (y7,y6)):=by
 intro j;have:=h j;unfold aI ak at *;rw[Xw]at *;rw[Yv];by_cases e:i=j
 ·subst e;rw[XA rfl];split
  ·exact⟨b,a⟩
  ·exact⟨by show(0:Nat)<=_;omega,by show(0:Nat)<=_;omega⟩
 ·rw[Xz e];exact this
theorem cU.wrote(h:cU T S u i g)(d:i.L[M]?=some (z8,y0,H))(n:zf.length=H.length)(s:nH zf)(w:qq y1 (gC (gC u (8,M) (yA z8 zf)) (9,M) (yA y0 zf))):∃f k,cU y1 S f k (g+1)/\uT u i f k:=by
 refine⟨_,{ i with L:=i.L.set M (z8,y0,zf) },⟨w,?_,?_,?_,?_,?_,?_,?_,?_,?_,?_,?_⟩,?_⟩
 ·rw[aA _ _ (bJ (by decide)),aA _ _ (bJ (by decide)),h.w0];unfold Mc.cells;rw[Yq]
 ·simp only[gC];exact h.x
 ·simp only[gC];exact h.m
 ·simp only[gC];exact h.r
 ·rw[aA _ _ (bJ (by decide)),aA _ _ (bJ (by decide)),h.ls];congr 1;exact(MH d (fun l=>(l.1,l.2.2)) (by simp only[EJ,n])).symm
 ·rw[aA _ _ (bJ (by decide)),aA _ _ (bJ (by decide)),h.lw];congr 1;exact(MH d (fun l=>(l.2.1,l.2.2)) (by simp only[EJ,n])).symm
 ·intro b x m H a;simp only[gC];exact h.v b x m H a
 ·intro b x m c a;replace a:(i.L.set M (z8,y0,zf))[b]?=some (x,m,c):=a;rw[Yv]at a;rw[aA _ _ (bJ (by decide))];by_cases e:M=b
  ·subst e;rw[XA rfl,XA (XL.1 d).1]at a;cases a
   obtain⟨-,-,-,y⟩:=h.l M z8 y0 H d;rw[b9,b9];exact⟨rfl,rfl,s,by omega⟩
  ·rw[Xz e]at a;rw[aA _ _ (xG (Ne.symm e)),aA _ _ (xG (Ne.symm e)),aA _ _ (bJ (by decide))];exact h.more.l b x m c a
 ·exact h.fit
 ·obtain⟨o,p,q⟩:=h.more.len;exact⟨o,p,by show(i.L.set M (z8,y0,zf)).length<=_;rw[Yq];exact q⟩
 ·exact h.rng
 ·exact⟨fun j b t=>by(repeat rw[rP (by decide) t]),rfl,rfl⟩
theorem jZ.wrote(h:jZ T (some S) H)(a:g<H.length)(n d:Xr):jZ ((T.setCell ⟨S,g*2,none⟩ (string n)).setCell ⟨S,g*2+1,none⟩ (string d)) (some S) (H.set g (n,d))/\aa [S] T ((T.setCell ⟨S,g*2,none⟩ (string n)).setCell ⟨S,g*2+1,none⟩ (string d)):=by
 refine⟨⟨(fun e=>by cases e),fun q e=>?_⟩,((aa.refl _ _).sl1 _).sl1 _⟩;cases e
 rw[ae (ae (h.Zbx S rfl) _ _) _ _,Yh,Yh,Mr H g n d a]
theorem jZ.cells(h:jZ T (some S) H)(d:g<H.length):(T.cell? ⟨S,g*2,none⟩=some (string (aI H g))/\T.cell? ⟨S,g*2+1,none⟩=some (string (ak H g)))/\(∀j,T.frozen? ⟨S,j,none⟩=false)/\S<T.heap.size:=by
 have a:=h.Zbx S rfl;obtain⟨b,c⟩:=Ah H g d;exact⟨⟨by rw[ab a];simpa using b,by rw[ab a];simpa using c⟩,zcW a,ah a⟩
theorem qO{L:List (Option Nat×Fs)}(o:aD T t (jB L)){k:Nat}{x:Option Nat×Fs}(c:L[k]?=some x):∃g,t.ao=some ⟨g,0,none⟩/\g<T.heap.size/\T.cell? ⟨g,k,none⟩=some (EJ x):=by
 have i:=(XL.1 c).1;rcases o.Zbu with ⟨_,b,_⟩ | ⟨g,d,a,e,f,-⟩
 ·have b:L.length=0:=b;omega
 ·exact⟨g,a,ah e,o.cell a k (EJ x) (by show(L.map EJ)[k]?=_;rw[Yi,c];rfl)⟩
theorem zaR(h:cU f b I w l)(hN:l<=1073741824)(hA:tP d)(hC:tP N)(hs:y.size<=1073741824)(ht:n.size<=1073741824) :
  Calls prog 10 #[pointer (some ⟨b,0,none⟩),agg #[int i64 6,int i64 d,int i64 N,int i64 m,string y,string n]] f fun e w'=>jS b I w l true e w':=by
 obtain⟨W,HW⟩:=aP (f.alloc (.cells #[int i64 6,int i64 d,int i64 N,int i64 m,string y,string n] 28));obtain⟨v,hB,a5,-⟩:=h.boxed 6 d N m y n W HW.o;obtain⟨o0,o1,o2,o3,X,Y,E⟩:=dG hB;have T:=ah v.Zbx;have H:W.cell? ⟨b,3,none⟩=some (slice w.hl.ao w.L.length w.hl.cap):=by rw[ab v.Zbx];rfl
 by_cases hL:w.L.length=0
 ·have HF:Xq (cU W b I w l):=v;rw[hL]at H;clear h v hB;go_enter func10,ntmps10;go_upto_region 1 with fail
  rw[HW.o];go_wp2;go_ret;exact⟨rfl,_,_,HF.o.more,uT.refl _ _⟩
 ·have a4:=h.len.2.2;have P:Xq (∀F,Calls prog 11 #[int i64 d,int i64 w.L.length] F fun e w'=>e=returned (int i64 (fH d w.L.length:Nat))/\w'=F):=fun F=>fS d w.L.length F hA ⟨by omega,by omega⟩;have av:=iw d w.L.length (by omega);obtain⟨k,Hk⟩:=aP (fH d w.L.length);rw[Hk.o]at P av;obtain⟨⟨a,c,j⟩,hk⟩:∃x,w.L[k]?=some x:=⟨w.L[k],Xv av⟩
  have HM:Xq (cU W b I w l):=v;obtain⟨C,D,B,a7⟩:=v.l k a c j hk;obtain⟨gl,V,gz,u⟩:=qO v.ownL (k:=k) (x:=(a,j)) (by rw[Yi,hk];rfl);replace u:W.cell? ⟨gl,k,none⟩=some (slice (Az a) j.length j.length):=u;rw[V]at H;have be:(k:Int)<(w.L.length:Int):=by omega
  have a3:(0:Int)<(w.L.length:Int):=by omega
  have ag:Xq _:=hk;have H8:Xq _:=C;have H9:Xq _:=D;by_cases A:j.length=0
  ·rw[A]at u;clear h v hB hk C D B V;go_enter func10,ntmps10;(go_upto_region 1 with fail);rw[HW.o];(go_upto_region 26 with fail);go_quiet ((go_at_call 11;exact XW (P.o _)));have HF:Xq (cU (W.drewN nq) b I w l):=HM.o.Zbj (bH.drewN nq);go_wp2;go_ret;exact⟨rfl,_,_,HF.o.more,uT.refl _ _⟩
  ·have al:Xq (∀F,Calls prog 11 #[int i64 N,int i64 j.length] F fun e w'=>e=returned (int i64 (fH N j.length:Nat))/\w'=F):=fun F=>fS N j.length F hC ⟨by omega,by omega⟩;have r:=iw N j.length (by omega);obtain⟨i,Hi⟩:=aP (fH N j.length);rw[Hi.o]at al r;have ap:jZ W a j:=(by have:=v.sep.all (8,k);rw[C]at this;exact this);have aq:jZ W c j:=(by have:=v.sep.all (9,k);rw[D]at this;exact this);obtain⟨p,rfl⟩:∃p,a=some p:=by
    cases a with
    | none=>rw[ap.nil rfl]at A;exact absurd rfl A
    | some p=>exact⟨p,rfl⟩
   obtain⟨s,rfl⟩:∃s,c=some s:=by
    cases c with
    | none=>rw[aq.nil rfl]at A;exact absurd rfl A
    | some s=>exact⟨s,rfl⟩
   have J:p≠f.heap.size:=by
    intro e;have:=(yA (some p) j).lt f (by have:=h.sep.all (8,k);rw[(h.l k _ _ j hk).1]at this;exact this) p (XH.2 rfl);omega
   have az:Xq _:=hB;have ac:Xq (nH (j.set i (y,n))):=N6 B i hs ht;replace u:W.cell? ⟨gl,k,none⟩=some (slice (some ⟨p,0,none⟩) j.length j.length):=u;have bd:(i:Int)<j.length:=(by omega);have a6:(0:Int)<j.length:=(by omega);have aT:Xq _:=J;have G:Xq (∀t,aa [] W t->(t.cell? ⟨f.heap.size,2,none⟩=some (int i64 N)/\t.cell? ⟨f.heap.size,4,none⟩=some (string y)/\t.cell? ⟨f.heap.size,5,none⟩=some (string n)/\f.heap.size<t.heap.size)/\(t.cell? ⟨b,3,none⟩=some (slice (some ⟨gl,0,none⟩) w.L.length w.hl.cap)/\b<t.heap.size)/\t.cell? ⟨gl,k,none⟩=some (slice (some ⟨p,0,none⟩) j.length j.length)/\gl<t.heap.size):=fun t kw=>by
    have q:∀g i,g<W.heap.size->t.cell? ⟨g,i,none⟩=W.cell? ⟨g,i,none⟩:=fun g i hg=>XJ (kw.block g hg (by simp));have z:=kw.size;exact⟨⟨by rw[q _ _ E];exact o2,by rw[q _ _ E];exact X,by rw[q _ _ E];exact Y,by omega⟩,⟨by rw[q _ _ T];exact H,by omega⟩,by rw[q _ _ gz];exact u,by omega⟩
   clear h v hB hk C D B V ap aq J;go_enter func10,ntmps10;(go_upto_region 1 with fail);rw[HW.o];(go_upto_region 26 with fail);go_quiet ((go_at_call 11;exact XW (P.o _)));(go_upto_region 28 with fail);obtain⟨W2,am⟩:=aP (W.drewN nq);rw[am.o];have ad:Xq (aa [] W W2):=(by show aa _ _ _;rw[<-am.o];exact bH.drewN nq);clear o0 o1 o2 o3 X Y E H T u gz;obtain⟨⟨o2,X,Y,E⟩,⟨H,T⟩,u,gz⟩:=G.o W2 ad.o;go_quiet ((go_at_call 11;exact XW (al.o _)));(go_upto_region 29 with fail);obtain⟨Z,an⟩:=aP (W2.drewN nq);rw[an.o];have K:Xq (aa [] W Z):=(by show aa _ _ _;rw[<-an.o];exact ad.o.drewN nq);have ai:Xq (cU Z b I w l):=HM.o.Zbj K.o;have M:Xq (jZ Z (some p) j):=(by show jZ _ _ _;have:=ai.o.sep.all (8,k);rw[H8.o]at this;exact this);clear o2 X Y E H T u gz;obtain⟨⟨o2,X,Y,E⟩,⟨H,T⟩,u,gz⟩:=G.o Z K.o;obtain⟨⟨d0,d1⟩,df,dz⟩:=M.o.cells r;go_region
   all_goals
    obtain⟨S,Q⟩:=aP (((Z.setCell ⟨p,i*2,none⟩ (string y)).setCell ⟨p,i*2+1,none⟩ (string n)).drew);rw[Q.o];have af:Xq (aa [p] Z S):=(by show aa _ _ _;rw[<-Q.o];exact(M.o.wrote r y n).2.drew);have S4:Xq (qq S (gC I (8,k) (yA (some p) (j.set i (y,n))))):=by
     show qq _ _;refine ai.o.sep.put _ _ (by rw[H8.o];exact af.o) ?_ (fun q hq=>XQ (by rw[H8.o];exact hq));rw[<-Q.o];exact(yA _ _).ok [] _ _ (M.o.wrote r y n).1 bH.drew (by simp)
    have a0:Xq (gC I (8,k) (yA (some p) (j.set i (y,n))) (0,0)=vk b 42 w.cells):=cm (by rw[aA _ _ (bJ (by decide))];exact HM.o.w0);have a1:Xq (gC I (8,k) (yA (some p) (j.set i (y,n))) (5,0)=de w.hc (jB (w.L.map (fun a2=>(a2.2.1,a2.2.2))))):=cm (by rw[aA _ _ (bJ (by decide))];exact HM.o.lw);have U:Xq (gC I (8,k) (yA (some p) (j.set i (y,n))) (9,k)=yA (some s) j):=cm (by rw[aA _ _ (bJ (by decide))];exact H9.o);obtain⟨b4,ax,-⟩:=S4.o.rowAt a0.o (bJ (by decide)) a1.o;have O:Xq (jZ S (some s) j):=(by show jZ _ _ _;have:=S4.o.all (9,k);rw[U.o]at this;exact this);obtain⟨gr,ar,rz,rc⟩:=qO ax (k:=k) (x:=(some s,j)) (by rw[Yi,ag.o];rfl);replace rc:S.cell? ⟨gr,k,none⟩=some (slice (some ⟨s,0,none⟩) j.length j.length):=rc;have c4:S.cell? ⟨b,4,none⟩=some (slice (some ⟨gr,0,none⟩) w.L.length w.hc.cap):=(by rw[ab b4,<-ar];rfl);clear d0 d1 df dz o2 X Y E H T u gz;obtain⟨⟨d0,d1⟩,df,dz⟩:=O.o.cells r;have T:=ah b4;have B4:=af.o.get (K.o.get az.o (by simp)) (by simp;exact fun e=>aT.o e.symm);obtain⟨-,-,-,-,X,Y,E⟩:=dG B4;clear b4 ax ar B4;(go_upto_region 30 with fail);go_region
    all_goals
     obtain⟨W5,R⟩:=aP (((S.setCell ⟨s,i*2,none⟩ (string y)).setCell ⟨s,i*2+1,none⟩ (string n)).drew);rw[R.o];have aS:Xq (aa [s] S W5):=(by show aa _ _ _;rw[<-R.o];exact(O.o.wrote r y n).2.drew);have S5:Xq (qq W5 (gC (gC I (8,k) (yA (some p) (j.set i (y,n)))) (9,k) (yA (some s) (j.set i (y,n))))):=by
      show qq _ _;refine S4.o.put _ _ (by rw[U.o];exact aS.o) ?_ (fun q hq=>XQ (by rw[U.o];exact hq));rw[<-R.o];exact(yA _ _).ok [] _ _ (O.o.wrote r y n).1 bH.drew (by simp)
     go_wp2;go_ret;exact⟨rfl,HM.o.wrote ag.o Yq ac.o S5.o⟩
theorem GY{o k:Nat}(h:T.heap[S]?=some (.cells (uA H).toArray 68))(c:o+k<H.length):T.cell? ⟨S,o*2+k*2,none⟩=some (string (aI H (o+k)))/\T.cell? ⟨S,o*2+k*2+1,none⟩=some (string (ak H (o+k))):=by
 obtain⟨a,b⟩:=Ah H (o+k) c;rw[Zac]at a b;exact⟨by rw[ab h];simpa using a,by rw[ab h];simpa using b⟩
theorem jZ.piece(h:T.heap[S]?=some (.cells (uA H).toArray 68))(o n:Nat)(i:o+n<=H.length):mC T (some ⟨S,o*2,none⟩) ((H.drop o).take n):=by
 intro k g;rw[YL,Ym]at g;have e:∀j,j<n->((H.drop o).take n)[j]?=H[o+j]?:=fun j f=>by rw[ZH,XA f,Zb]
 obtain⟨a,b⟩:=GY h (o:=o) (k:=k) (by omega);have c:aI ((H.drop o).take n) k=aI H (o+k):=by unfold aI;rw[Xw,Xw,e k (by omega)]
 have d:ak ((H.drop o).take n) k=ak H (o+k):=by unfold ak;rw[Xw,Xw,e k (by omega)]
 exact⟨S,o*2,rfl,ah h,by rw[c];exact a,by rw[d];exact b⟩
theorem jZ.src{a:Option Nat}(h:jZ T a H):mC T (Az a) H:=by
 cases a with
 | none=>rw[h.nil rfl];intro k c;cases c
 | some b =>
  have:=jZ.piece (h.Zbx b rfl) 0 H.length (by omega);rw[ZaJ,Yl,Zn]at this;exact this
theorem nH.piece(h:nH H)(o n:Nat):nH ((H.drop o).take n):=by
 intro j;have a:=h (o+j);unfold aI ak at *;rw[Xw]at *;rw[ZH];split
 ·rw[Zb];exact a
 ·exact⟨by show(0:Nat)<=_;omega,by show(0:Nat)<=_;omega⟩
def Ju(w:World)(x m:Nat)(h:Hd)(lo hi lo2 hi2:Nat)(st:Option Nat)(fs:Fs)(e:Ending)(w':World):Prop :=
 e=returned (bool true)/\eM w' x fs lo hi st/\(∃h',dY w' m fs h' lo2 hi2 st/\∀q,h'.Zbx=some q->h.Zbx=some q∨w.heap.size<=q)/\aa ([x]++m :: h.Zbx.toList) w w'
theorem mC.srcF(h:T.heap[S]?=some (.cells (uA H).toArray 68)):pD T (some ⟨S,0,none⟩) H.length H:=by
 refine⟨Xy _,fun k c=>?_⟩;obtain⟨a,b⟩:=GY h (o:=0) (k:=k) (by omega);rw[Zn,Zf]at a b;exact⟨S,rfl,ah h,by simpa using a,by simpa using b⟩
theorem GX(f e:Fs)(h:Hd)(K I m g:Nat)(x:Option Nat)(w:World)(hx:eM w L f K I x)(J:dY w v f h m g x)(hb:w.heap[s]?=some (.cells (uA e).toArray 68))(C:∀q,q∈L :: jA K I->q∉v :: (h.Zbx.toList++jA m g))(ag:s≠L)(af:s≠v)(ac:h.Zbx≠some s)(hl:D+b+l<=e.length)(hN:e.length<=1073741824)(hf:nH e) :
  Calls prog 12 #[pointer (some ⟨L,0,none⟩),pointer (some ⟨v,0,none⟩),slice (some ⟨s,0,none⟩) e.length e.length,int i64 D,int i64 b,int i64 l] w fun r p=>Ju w L v h K I m g (oo (eC ((e.drop D).take b)) x) (kU f ((e.drop D).take b)) r p:=by
 have av:Xq (dY w v f h m g x):=J;have HB:Xq _:=hb;have xz:=hx.anyS.lt;have t:((e.drop D).take b).length=b:=by rw[YL,Ym];omega
 have aS:Xq (∀p,aa [] w p->mC p (some ⟨s,0,none⟩) e):=fun p k=>(jZ.src (a:=some s) ⟨(fun l=>by cases l),fun q l=>by cases l;exact k.get hb (by simp)⟩)
 have Y:Xq (∀o n,aa [] w o->(b=0∨n=⟨s,D*2,none⟩)->mC o (some n) ((e.drop D).take b)):=fun o n k u=>by
  rcases u with l | l
  ·rw[l];intro j hj;rw[ZS]at hj;cases hj
  ·rw[l];exact jZ.piece (k.get hb (by simp)) D b (by omega)
 have ao:Xq (Calls prog 28 #[slice (some ⟨s,0,none⟩) e.length e.length] w _):=lk _ e.length e w (aS.o w (aa.refl _ _)) hN;have ap:Xq (∀o c n,aa [] w o->(b=0∨n=⟨s,D*2,none⟩)->Calls prog 28 #[slice (some n) b c] o fun l p=>l=returned (slice (some ⟨o.heap.size,0,none⟩) b b)/\p.heap[o.heap.size]?=some (.cells (uA ((e.drop D).take b)).toArray 68)/\aa [] o p):=fun o c n k u=>by
  have:=lk (some n) c ((e.drop D).take b) o (Y.o o n k u) (by rw[t];omega);rw[t]at this;exact this
 have a2:Xq (∀E c n,aa [] w E->(b=0∨n=⟨s,D*2,none⟩)->Calls prog 29 #[pointer (some ⟨L,0,none⟩),slice (some n) b c] E fun l p=>l=returned (int i64 (eC ((e.drop D).take b)))/\eM p L (kU f ((e.drop D).take b)) K I (oo (eC ((e.drop D).take b)) x)/\aa [L] E p):=fun E c n k u=>by
  have:=Ip L f ((e.drop D).take b) (some n) c K I x E (hx.Zbj k) (Y.o E n k u) (hf.piece D b);rw[t]at this;exact this
 have ar:Xq (∀y B2,dY y v f h m g x->y.heap[B2]?=some (.cells (uA ((e.drop D).take b)).toArray 68)->Calls prog 30 #[pointer (some ⟨v,0,none⟩),slice (some ⟨B2,0,none⟩) b b] y fun l p=>l=returned (int i64 (eC ((e.drop D).take b)))/\∃G,dY p v (kU f ((e.drop D).take b)) G m g (oo (eC ((e.drop D).take b)) x)/\aa (v :: h.Zbx.toList) y p/\∀q,G.Zbx=some q->h.Zbx=some q∨y.heap.size<=q):=fun y B2 hr B=>by
  have:=Gg v f ((e.drop D).take b) h m g x (some ⟨B2,0,none⟩) ((e.drop D).take b).length y hr (mC.srcF B) (fun l=>by cases l) (fun n l=>by cases l;exact⟨_,rfl⟩) (fun j _=>hf.piece D b j);rw[t]at this;exact this
 have X:Xq (v<w.heap.size/\∀q,h.Zbx=some q->q<w.heap.size):=by
  obtain⟨on,p2,p3,p4,hr⟩:=J.anyS;exact⟨ah hr.d,fun q i=>hr.ZbH.lt i⟩
 generalize kU f ((e.drop D).take b)=F at *;generalize oo (eC ((e.drop D).take b)) x=M at *;generalize eC ((e.drop D).take b)=r at *;generalize (e.drop D).take b=P at *;have ba:(D:Int)+(b:Int)<=e.length:=by omega
 have bc:(D:Int)+(b:Int)+(l:Int)<=e.length:=by omega
 have HD:Xq (s≠L/\s≠v/\h.Zbx≠some s):=⟨ag,af,ac⟩;have V:Xq _:=C;clear hx J hb hf C ag af ac t;have H:(b=0/\l=0/\e.length=D)∨(b=0/\l=0/\¬e.length=D)∨(¬b+l=0/\¬e.length=D):=by omega
 rcases H with ⟨rfl,rfl,rfl⟩ | ⟨rfl,rfl,a4⟩ | ⟨a7,a4⟩
 all_goals
  go_enter func12,ntmps12;go_upto_region 2 with (go_at_call 28;refine Xx ao.o ?_;rintro e1 o ⟨rfl,Z,k1⟩)
  go_upto_region 3 with (go_at_call 28;refine Xx (ap.o o _ _ k1 (by first | exact XQ trivial | exact XQ rfl | exact XK rfl)) ?_;rintro e2 E ⟨rfl,B,k2⟩)
  have A:Xq _:=k1.trans k2;have am:Xq _:=(k2.get Z (by simp));have an:Xq _:=B;have a3:Xq (w.heap.size<=o.heap.size):=k1.size;clear Z B k1 k2;go_upto_region 4 with (go_at_call 29;refine Xx (a2.o E _ _ A.o (by first | exact XQ trivial | exact XQ rfl | exact XK rfl)) ?_;rintro e3 y ⟨rfl,al,N⟩)
  have ax:Xq (dY y v f h m g x):=(av.o.Zbj A.o).Zbw N (fun q i J=>V.o L Yg (by rw[<-XH.1 J];exact i));have Q:Xq _:=(N.get am.o (by simp;omega));have S:Xq _:=(N.get an.o (by have:=a3.o;simp;omega));have T:Xq _:=(N.get (A.o.get HB.o (by simp)) (by simp;exact HD.o.1));have a0:Xq (eM y L F K I M):=al;have W:Xq _:=((A.o.mono (S':=[L]) (by simp)).trans N);clear al N;go_upto_region 5 with (go_at_call 30;refine Xx (ar.o y _ ax.o S.o) ?_;rintro e4 O ⟨rfl,h4,ai,k4,b4⟩)
  have az:Xq (∃G,dY O v F G m g M/\∀q,G.Zbx=some q->h.Zbx=some q∨w.heap.size<=q):=⟨h4,ai,fun q i=>(b4 q i).elim XQ (fun z=>XK (XF W.o.size z))⟩;have a1:Xq (eM O L F K I M):=a0.o.Zbw k4 (fun q i J=>V.o q i (by rcases Yd.1 J with l | l;rw[l];exact Yg;exact Yf _ (Yx _ l)));have R:Xq _:=(k4.get Q.o (by intro i;rcases Yd.1 i with l | i;have:=X.o.1;omega;have:=X.o.2 _ (aX i);omega));have U:Xq _:=(k4.get T.o (by intro i;rcases Yd.1 i with l | i;exact HD.o.2.1 l;exact HD.o.2.2 (aX i)));have aq:Xq (aa ([L]++v :: h.Zbx.toList) w O):=(W.o.mono (S':=[L]++v :: h.Zbx.toList) (fun q i _=>Yx _ i)).trans (k4.mono (fun q i _=>YT _ i));have aT:Xq _:=(qk (some ⟨s,0,none⟩) (some ⟨w.heap.size,0,none⟩) e.length e.length e O (jZ.src (a:=some s) ⟨(fun l=>by cases l),fun q l=>by cases l;exact U.o⟩) (jZ.src (a:=some w.heap.size) ⟨(fun l=>by cases l),fun q l=>by cases l;exact R.o⟩) (by omega));clear ai k4 b4;go_wp2_with (go_at_call 25;refine Xx aT.o ?_;rintro e5 w5 ⟨rfl,n5,bd⟩);go_ret;have k5:aa [] O (O.drewN n5):=bH.drewN n5;obtain⟨G,a6,a5⟩:=az.o;exact⟨rfl,a1.o.Zbj k5,⟨G,a6.Zbj k5,a5⟩,aq.o.trans (k5.mono (by simp))⟩
theorem Ki(hx:eM f L z3 s D zt)(x:dY f v z3 z0 b l zt)(p:∀q,q∈L :: jA s D->q∉v :: (z0.Zbx.toList++jA b l)) :
  Calls prog 12 #[pointer (some ⟨L,0,none⟩),pointer (some ⟨v,0,none⟩),slice none 0 0,int i64 0,int i64 0,int i64 0] f fun r a=>Ju f L v z0 s D b l (oo (eC []) zt) (kU z3 []) r a:=by
 have Q:Xq (dY f v z3 z0 b l zt):=x;have xz:=hx.anyS.lt;have i:Xq (∀(a:World) ao,mC a ao []):=fun a ao j Z=>by cases Z
 have G:nH []:=fun j=>⟨by show(0:Nat)<=_;omega,by show(0:Nat)<=_;omega⟩
 have HC:Xq (∀n,Calls prog 28 #[slice none 0 0] n fun e a=>e=returned (slice (some ⟨n.heap.size,0,none⟩) 0 0)/\a.heap[n.heap.size]?=some (.cells (uA []).toArray 68)/\aa [] n a):=fun n=>lk none 0 [] n (i.o _ _) (by simp);have W:Xq (∀A,aa [] f A->Calls prog 29 #[pointer (some ⟨L,0,none⟩),slice none 0 0] A fun e a=>e=returned (int i64 (eC []))/\eM a L (kU z3 []) s D (oo (eC []) zt)/\aa [L] A a):=fun A k=>Ip L z3 [] none 0 s D zt A (hx.Zbj k) (i.o _ _) G;have P:Xq (∀g J,dY g v z3 z0 b l zt->g.heap[J]?=some (.cells (uA []).toArray 68)->Calls prog 30 #[pointer (some ⟨v,0,none⟩),slice (some ⟨J,0,none⟩) 0 0] g fun e a=>e=returned (int i64 (eC []))/\∃w,dY a v (kU z3 []) w b l (oo (eC []) zt)/\aa (v :: z0.Zbx.toList) g a/\∀q,w.Zbx=some q->z0.Zbx=some q∨g.heap.size<=q):=fun g J K m=>by
  exact Gg v z3 [] z0 b l zt (some ⟨J,0,none⟩) 0 g K (mC.srcF m) (fun e=>by cases e) (fun ad e=>by cases e;exact⟨_,rfl⟩) (fun j Z=>by cases Z)
 have ag:Xq (v<f.heap.size/\∀q,z0.Zbx=some q->q<f.heap.size):=by
  obtain⟨on,p2,p3,p4,K⟩:=x.anyS;exact⟨ah K.d,fun q c=>K.ZbH.lt c⟩
 generalize kU z3 []=u at *;generalize oo (eC []) zt=y at *;generalize eC []=r at *;have E:Xq _:=p;clear hx x p G;go_enter func12,ntmps12;go_upto_region 2 with (go_at_call 28;refine Xx (HC.o f) ?_;rintro e1 n ⟨rfl,Y,k1⟩)
 go_upto_region 3 with (go_at_call 28;refine Xx (HC.o n) ?_;rintro e2 A ⟨rfl,m,k2⟩)
 have t:Xq _:=k1.trans k2;have N:Xq _:=m;have X:Xq (f.heap.size<=n.heap.size):=k1.size;clear Y m k1 k2;go_upto_region 4 with (go_at_call 29;refine Xx (W.o A t.o) ?_;rintro e3 g ⟨rfl,I,M⟩)
 have R:Xq (dY g v z3 z0 b l zt):=(Q.o.Zbj t.o).Zbw M (fun q c x=>E.o L Yg (by rw[<-XH.1 x];exact c));have C:Xq _:=(M.get N.o (by have:=X.o;simp;omega));have U:Xq (eM g L u s D y):=I;have F:Xq _:=((t.o.mono (S':=[L]) (by simp)).trans M);clear I M;go_upto_region 5 with (go_at_call 30;refine Xx (P.o g _ R.o C.o) ?_;rintro e4 B ⟨rfl,h4,H,k4,b4⟩)
 have S:Xq (∃w,dY B v u w b l y/\∀q,w.Zbx=some q->z0.Zbx=some q∨f.heap.size<=q):=⟨h4,H,fun q c=>(b4 q c).elim XQ (fun z=>XK (XF F.o.size z))⟩;have V:Xq (eM B L u s D y):=U.o.Zbw k4 (fun q c x=>E.o q c (by rcases Yd.1 x with e | e;rw[e];exact Yg;exact Yf _ (Yx _ e)));have O:Xq (aa ([L]++v :: z0.Zbx.toList) f B):=(F.o.mono (S':=[L]++v :: z0.Zbx.toList) (fun q c _=>Yx _ c)).trans (k4.mono (fun q c _=>YT _ c));have T:Xq (Calls prog 25 #[slice none 0 0,slice (some ⟨f.heap.size,0,none⟩) 0 0] B _):=qk none (some ⟨f.heap.size,0,none⟩) 0 0 [] B (i.o _ _) (i.o _ _) (by simp);clear H k4 b4;go_wp2_with (go_at_call 25;refine Xx T.o ?_;rintro e5 w5 ⟨rfl,n5,ai⟩);go_ret;have k5:aa [] B (B.drewN n5):=bH.drewN n5;obtain⟨w,af,ac⟩:=S.o;exact⟨rfl,V.o.Zbj k5,⟨w,af.Zbj k5,ac⟩,O.o.trans (k5.mono (by simp))⟩
def zah(w:World)(x m:Nat)(h:Hd)(lo hi lo2 hi2:Nat)(fs:Fs)(e:Ending)(w':World):Prop :=
 e=returned (bool true)/\(∃st lo1 hi1 lo3 hi3,eM w' x fs lo1 hi1 st/\qt w.heap.size lo hi lo1 hi1/\dY w' m fs h lo3 hi3 st/\qt w.heap.size lo2 hi2 lo3 hi3/\(∀q,q∈x :: jA lo1 hi1->q∉m :: (h.Zbx.toList++jA lo3 hi3)))/\aa ([x]++m :: h.Zbx.toList) w w'
theorem Fm(hx:eM f L z3 s D zt)(g:dY f v z3 z0 b l zt)(ao:∀j,j<z3.length->(ak z3 j).size<=1024)(x:∀q,q∈L :: jA s D->q∉v :: (z0.Zbx.toList++jA b l)) :
  Calls prog 15 #[pointer (some ⟨L,0,none⟩),pointer (some ⟨v,0,none⟩),string n] f fun e H=>zah f L v z0 s D b l z3 e H:=by
 have an:z3.length<=4:=by obtain⟨on,p2,p3,p4,r⟩:=g.anyS;exact r.le
 obtain⟨⟨r,W,V,c⟩,q,i,h1,h2⟩:=QX L v z3 z0 s D b l zt n f hx an ao;have H1:Xq (Calls prog 35 #[pointer (some ⟨L,0,none⟩),string n] f fun e H=>e=returned (tuple #[agg #[int i64 r,string W,int i64 V,int i64 c],int i64 q])/\(∃d a,eM H L z3 d a i/\qt f.heap.size s D d a)/\aa [L] f H):=h1;have H2:Xq (∀I,dY I v z3 z0 b l zt->Calls prog 36 #[pointer (some ⟨v,0,none⟩),string n] I fun e H=>e=returned (tuple #[agg #[int i64 r,string W,int i64 V,int i64 c],int i64 q])/\(∃d a,dY H v z3 z0 d a i/\qt I.heap.size b l d a)/\aa [v] I H):=h2;have ad:Xq (dY f v z3 z0 b l zt):=g;have y:Xq _:=x;have T:Xq ((∀q,q∈L :: jA s D->q<f.heap.size)/\∀q,q∈v :: (z0.Zbx.toList++jA b l)->q<f.heap.size):=⟨hx.lt,g.lt⟩;clear h1 h2 hx g x;go_enter func15,ntmps15;go_upto_region 2 with (go_at_call 35;refine Xx H1.o ?_;rintro e1 S ⟨rfl,⟨d,a,G,n1⟩,k1⟩)
 obtain⟨u,C⟩:=aP (S.alloc (.cells #[int i64 r,string W,int i64 V,int i64 c] 87));have A:Xq _:=dx C.o;have X:Xq _:=dC C.o;have al:Xq (eM u L z3 d a i):=G.Zbj A.o;have O:Xq (qt f.heap.size s D d a):=n1;have Z:Xq (a<=S.heap.size):=G.z;have N:Xq (aa [L] f u):=k1.trans (A.o.mono (by simp));have ag:Xq (dY u v z3 z0 b l zt):=ad.o.Zbw N.o (fun q k g=>y.o L Yg (by rw[<-XH.1 g];exact k));have P:Xq (S.heap.size<=u.heap.size):=A.o.size;have F:Xq (f.heap.size<=S.heap.size):=k1.size;rw[C.o];clear G k1 n1;go_upto_region 3 with (go_at_call 36;refine Xx (H2.o u ag.o) ?_;rintro t I ⟨rfl,⟨p,m,Q,n3⟩,k2⟩)
 obtain⟨U,E⟩:=aP (I.alloc (.cells #[int i64 r,string W,int i64 V,int i64 c] 87));have M:Xq _:=dx E.o;have J:=dC E.o;have B:Xq (aa [v] u U):=k2.trans (M.o.mono (by simp));have K:Xq (∀q,q∈L :: jA d a->q∈L :: jA s D∨(f.heap.size<=q/\q<S.heap.size)):=fun q k=>by
  rcases Yd.1 k with e | e
  ·exact XQ (by rw[e];exact Yg)
  ·rcases O.o.mem e with t | t
   ·exact XQ (Yf _ t)
   ·exact XK ⟨t,XB (pR.1 e).2 Z.o⟩
 have am:Xq (eM U L z3 d a i):=al.o.Zbw B.o (fun q k g=>by
  rw[XH.1 g]at k;rcases K.o v k with e | e
  ·exact y.o v e Yg
  ·have:=T.o.2 v Yg;omega)
 have ai:Xq (dY U v z3 z0 p m i):=Q.Zbj M.o;have af:Xq (qt f.heap.size b l p m):=by
  rcases n3 with e | e
  ·exact XQ e
  ·exact XK (XF (XF F.o P.o) e)
 have Y:Xq (∀q,q∈L :: jA d a->q∉v :: (z0.Zbx.toList++jA p m)):=fun q k g=>by
  have R:∀q,q∈v :: (z0.Zbx.toList++jA p m)->q∈v :: (z0.Zbx.toList++jA b l)∨u.heap.size<=q:=fun q g=>by
   rcases Yd.1 g with e | e
   ·exact XQ (by rw[e];exact Yg)
   ·rcases X9.1 e with e | e
    ·exact XQ (Yf _ (Yx _ e))
    ·rcases qt.mem (z:=u.heap.size) (lo:=b) (hi:=l) n3 e with e | e
     ·exact XQ (Yf _ (YT _ e))
     ·exact XK e
  have z1:=F.o;have z2:=P.o;rcases K.o q k with e | e
  ·rcases R q g with t | t
   ·exact y.o q e t
   ·have:=T.o.1 q e;omega
  ·rcases R q g with t | t
   ·have:=T.o.2 q t;omega
   ·omega
 have w:=B.o.get X.o (by have:=T.o.2 v Yg;have:=F.o;simp;omega);have ac:Xq (aa ([L]++v :: z0.Zbx.toList) f U):=(N.o.mono (fun q k _=>Yx _ k)).trans (B.o.mono (fun q k _=>YT _ (by rw[XH.1 k];exact Yg)));rw[E.o];clear Q k2 n3;obtain⟨⟨a0,a1,a2,a3⟩,-,az⟩:=oZ w;obtain⟨⟨b0,b1,b2,b3⟩,-,bz⟩:=oZ J;clear w J;go_wp2;go_ret;exact⟨rfl,⟨i,d,a,p,m,am.o,O.o,ai.o,af.o,Y.o⟩,ac.o⟩
theorem Dq{L:Xu}(o:aD T t (nk S L)){k x:Nat}(c:L[k]?=some x):∃g,t.ao=some ⟨g,0,none⟩/\g<T.heap.size/\T.cell? ⟨g,k,none⟩=some (V9 x):=by
 have i:=(XL.1 c).1;rcases o.Zbu with ⟨_,b,_⟩ | ⟨g,d,a,e,f,-⟩
 ·have b:L.length=0:=b;omega
 ·exact⟨g,a,ah e,o.cell a k (V9 x) (by show(L.map V9)[k]?=_;rw[Yi,c];rfl)⟩
theorem Q5(h:dE y7 y6=0):y6.size<=1024:=by
 unfold dE at h;split at h
 ·cases h
 ·split at h
  ·cases h
  ·omega
theorem za8(h:FD H)(n d:Xr):FD (fY H n d).2:=by
 unfold fY;split
 ·exact h
 ·next c =>
  have b:=Q5 (Decidable.not_not.1 c);split
  ·intro j a;rw[Yq]at a;have:=h j a;unfold ak at *;rw[Xw]at *;rw[Yv];split
   ·split
    ·exact b
    ·show(0:Nat)<=_;omega
   ·exact this
  ·split
   ·exact h
   ·intro j a;rw[XC]at a;replace a:j<H.length+1:=a;unfold ak;rw[Xw];by_cases e:j<H.length
    ·have:=h j e;unfold ak at this;rw[Xw]at this;rw[XP e];exact this
    ·rw[XO (by omega),show j-H.length=0 by omega];exact b
theorem Sd(h:FD H)(a:Fs):FD (kU H a):=by
 unfold kU;split
 ·next e=>exact(VL e).2
 ·exact h
theorem cU.both{A x p m w o:Nat}(a:cU T S u i g)(B:i.V[M]?=some (z4,z6,H))(I:u (6,M)=itV z4 H y4 y5 z8)(J:u (7,M)=itR z6 t H A x z8)(O:eM y1 z4 zf p m y0)(N:dY y1 z6 zf y3 w o y0)(U:qt T.heap.size y4 y5 p m)(W:qt T.heap.size A x w o)(K:∀q,y3.Zbx=some q->t.Zbx=some q∨T.heap.size<=q)(L:∀q,q∈z4 :: jA p m->q∉z6 :: (y3.Zbx.toList++jA w o))(k:aa ([z4]++z6 :: t.Zbx.toList) T y1)(C:FD zf):∃D E,cU y1 S D E (g+1)/\uT u i D E:=by
 have s:=a.sep.put2 (6,M) (7,M) (bJ (by decide)) (itV z4 zf p m y0) (itR z6 y3 zf w o y0) (by
  rw[I,J];refine k.mono (fun q z _=>?_);rcases X9.1 z with e | e
  ·exact Yx _ (by rw[XH.1 e];exact Yg)
  ·refine YT _ ?_;rcases Yd.1 e with e | e
   ·rw[e];exact Yg
   ·exact Yf _ (Yx _ e)) O N (fun q z=>by
  rw[I];rcases Yd.1 z with e | e
  ·exact XQ (by rw[e];exact Yg)
  ·rcases U.mem e with b | b
   ·exact XQ (Yf _ b)
   ·exact XK b) (fun q z=>by
  rw[J];rcases Yd.1 z with e | e
  ·exact XQ (by rw[e];exact Yg)
  ·rcases X9.1 e with e | e
   ·rcases K q (aX e) with b | b
    ·exact XQ (Yf _ (Yx _ (by rw[b];simp)))
    ·exact XK b
   ·rcases W.mem e with b | b
    ·exact XQ (Yf _ (YT _ b))
    ·exact XK b) L
 have F:∀f:Nat×Nat×Fs->Nat,f (z4,z6,zf)=f (z4,z6,H)->(i.V.set M (z4,z6,zf)).map f=i.V.map f:=fun f C=>by
  rw[Zm,C];apply YR;intro j;rw[Yv];by_cases G:M=j
  ·subst G;have:=(XL.1 B).1;rw[XA rfl,Yi,B];simp[this]
  ·rw[Xz G]
 refine⟨_,{ i with V:=i.V.set M (z4,z6,zf) },⟨s,?_,?_,?_,?_,?_,?_,?_,?_,?_,?_,?_⟩,?_⟩
 ·rw[aA _ _ (bJ (by decide)),aA _ _ (bJ (by decide)),a.w0];unfold Mc.cells;rw[Yq]
 ·rw[aA _ _ (bJ (by decide)),aA _ _ (bJ (by decide)),F _ rfl];exact a.x
 ·rw[aA _ _ (bJ (by decide)),aA _ _ (bJ (by decide)),F _ rfl];exact a.m
 ·simp only[gC];exact a.r
 ·simp only[gC];exact a.ls
 ·simp only[gC];exact a.lw
 ·intro j y n d c;replace c:(i.V.set M (z4,z6,zf))[j]?=some (y,n,d):=c;rw[Yv]at c;rw[aA _ _ (bJ (by decide))];by_cases e:M=j
  ·subst e;rw[XA rfl,XA (XL.1 B).1]at c;cases c
   rw[b9,b9];exact⟨⟨_,_,_,_,_,_,rfl,rfl⟩,C⟩
  ·rw[Xz e]at c;rw[aA _ _ (xG (Ne.symm e)),aA _ _ (xG (Ne.symm e)),aA _ _ (bJ (by decide))];exact a.v j y n d c
 ·intro j y n d c;simp only[gC];exact a.more.l j y n d c
 ·exact a.fit
 ·obtain⟨P,Q,R⟩:=a.more.len;exact⟨by show(i.V.set M (z4,z6,zf)).length<=_;rw[Yq];exact P,Q,R⟩
 ·exact a.rng
 ·exact⟨fun j M c=>by(repeat rw[rP (by decide) c]),rfl,rfl⟩
theorem jQ(h:cU f b I w l)(j:∀W,cU W b I w l->Calls prog 10 #[pointer (some ⟨b,0,none⟩),agg #[int i64 y2,int i64 d,int i64 N,int i64 m,string y,string n]] W fun e a=>jS b I w l true e a) :
  Calls prog 8 #[pointer (some ⟨b,0,none⟩),agg #[int i64 y2,int i64 d,int i64 N,int i64 m,string y,string n]] f fun e a=>jS b I w l true e a:=by
 obtain⟨W,c⟩:=aP (f.alloc (.cells #[int i64 y2,int i64 d,int i64 N,int i64 m,string y,string n] 28));obtain⟨i,g,q,-⟩:=h.boxed y2 d N m y n W c.o;obtain⟨r,s,t,u,v,x,z⟩:=dG g;have k:Xq _:=j W i;clear h i g j;go_enter func8,ntmps8;go_upto_region 1 with fail
 rw[c.o];go_wp2_with (go_at_call 10;refine Xx k.o ?_;rintro e A ⟨rfl,p⟩);go_ret;exact⟨rfl,p⟩
structure iW(W:World)(b B:Nat)(I:Nat×Nat->It)(M:Mc)(N:Nat)(k A C D:Int)(s t:Xr):Prop where
 m:cU W b I M N
 o:W.heap[B]?=some (.cells #[int i64 k,int i64 A,int i64 C,int i64 D,string s,string t] 28)
theorem iW.Zbj{k A C D:Int}(a:iW T S g u i M k A C D y7 y6)(h:aa [] T y1):iW y1 S g u i M k A C D y7 y6:=⟨a.m.Zbj h,h.get a.o (by simp)⟩
theorem PI(h:cU f b I w l)(j:(8<=y2/\y2<=14)∨19<=y2)(s:w.V.length=0) :
  Calls prog 8 #[pointer (some ⟨b,0,none⟩),agg #[int i64 y2,int i64 d,int i64 N,int i64 m,string y,string n]] f fun e v=>jS b I w l true e v:=by
 obtain⟨W,g⟩:=aP (f.alloc (.cells #[int i64 y2,int i64 d,int i64 N,int i64 m,string y,string n] 28));obtain⟨c,i,t,-⟩:=h.boxed y2 d N m y n W g.o;obtain⟨x,z,A,B,C,D,E⟩:=dG i;have p:Xq _:=mX b l I w y2 d N m y n W c j;have q:Xq (cU W b I w l):=c;clear h c i j;go_enter func8,ntmps8;go_upto_region 1 with fail
 rw[g.o];go_upto_region 2 with (go_at_call 10;refine Xx p.o ?_;rintro e k ⟨rfl,u⟩)
 have a:Xq (cU k b I w l):=q.o.Zbj u;have r:k.cell? ⟨b,0,none⟩=some (slice w.hx.ao w.V.length w.hx.cap):=by rw[ab a.o.Zbx];rfl
 rw[s]at r;go_wp2;go_ret;exact⟨rfl,_,_,a.o.more,uT.refl _ _⟩
theorem Mn(b:∀q,q∈g :: jA z4 z6->q∉M :: (t.Zbx.toList++jA y4 y5))(f:∀q,q∈g :: jA z4 z6->q<S)(d:∀q,y3.Zbx=some q->t.Zbx=some q∨S<=q):∀q,q∈g :: jA z4 z6->q∉M :: (y3.Zbx.toList++jA y4 y5):=fun q a i=>by
 rcases Yd.1 i with e | e
 ·exact b q a (by rw[e];exact Yg)
 ·rcases X9.1 e with e | e
  ·rcases d q (aX e) with c | c
   ·exact b q a (Yf _ (Yx _ (by rw[c];simp)))
   ·have:=f q a;omega
  ·exact b q a (Yf _ (YT _ e))
structure qx(w:World)(I:Nat×Nat->It)(M:Mc)(i x m:Nat)(fs:Fs)(h:Hd)(lo hi lo2 hi2:Nat)(st:Option Nat):Prop where
 v:M.V[i]?=some (x,m,fs)
 i6:I (6,i)=itV x fs lo hi st
 i7:I (7,i)=itR m h fs lo2 hi2 st
 ok:FD fs
 p:eM w x fs lo hi st
 d:dY w m fs h lo2 hi2 st
 far:∀q,q∈x :: jA lo hi->q∉m :: (h.Zbx.toList++jA lo2 hi2)
theorem qx.le(a:qx T u i S g M H t z4 z6 y4 y5 z8):H.length<=4:=by
 obtain⟨b,c,e,f,r⟩:=a.d.anyS;exact r.le
theorem qx.st(a:qx T u i S g M H t z4 z6 y4 y5 z8)(k:Nat)(e:z8=some k):k<H.length/\((gO H k).1==0)=true:=by
 subst e;exact a.p.s.1
theorem qx.Zbj(a:qx T u i S g M H t z4 z6 y4 y5 z8)(k:aa [] T y1):qx y1 u i S g M H t z4 z6 y4 y5 z8:={ a with p:=a.p.Zbj k,d:=a.d.Zbj k }
theorem cU.ver(a:cU T S u i g)(f:M<i.V.length) :
  ∃x m j h r f c b s d e,qx T u i M x m j h r f c b s/\(i.hx.ao=some ⟨d,0,none⟩/\d<T.heap.size/\T.cell? ⟨d,M,none⟩=some (pointer (some ⟨x,0,none⟩)))/\(i.hm.ao=some ⟨e,0,none⟩/\e<T.heap.size/\T.cell? ⟨e,M,none⟩=some (pointer (some ⟨m,0,none⟩))):=by
 obtain⟨⟨x,m,j⟩,l⟩:∃y,i.V[M]?=some y:=⟨i.V[M],Xv f⟩
 obtain⟨⟨s,h,r,f,c,b,n,o⟩,p⟩:=a.v M x m j l;obtain⟨d,B,F,z⟩:=Dq a.ownX (k:=M) (x:=x) (by rw[Yi,l];rfl);obtain⟨e,C,G,A⟩:=Dq a.ownM (k:=M) (x:=m) (by rw[Yi,l];rfl);have t:=a.sep.all (6,M);have w:=a.sep.all (7,M);rw[n]at t;rw[o]at w;exact⟨x,m,j,h,r,f,c,b,s,d,e,⟨l,n,o,p,t,w,fun q E D=>a.sep.far (6,M) (7,M) (bJ (by decide)) q (by rw[n];exact E) (by rw[o];exact D)⟩,⟨B,F,z⟩,C,G,A⟩
theorem zbg(h:cU f b I w l)(hV:w.V.length≠0)(hA:tP d)(hN:l<=1073741824) :
  Calls prog 8 #[pointer (some ⟨b,0,none⟩),agg #[int i64 10,int i64 d,int i64 N,int i64 m,string y,string n]] f fun e J=>jS b I w l true e J:=by
 obtain⟨W,L⟩:=aP (f.alloc (.cells #[int i64 10,int i64 d,int i64 N,int i64 m,string y,string n] 28));obtain⟨F,E,af,-⟩:=h.boxed 10 d N m y n W L.o;obtain⟨t,u,Q,R,S,T,z⟩:=dG E;have U:Xq _:=(mX b l I w 10 d N m y n W F (by omega));have X:Xq (iW W b f.heap.size I w l 10 d N m y n):=⟨F,E⟩;have ad:=h.len.1;have k:Xq (∀B,Calls prog 11 #[int i64 d,int i64 w.V.length] B fun e J=>e=returned (int i64 (fH d w.V.length:Nat))/\J=B):=fun B=>fS d w.V.length B hA ⟨by omega,by omega⟩;have s:=iw d w.V.length (by omega);obtain⟨i,Y⟩:=aP (fH d w.V.length);rw[Y.o]at k s;have ac:((w.V.length:Int)==0)=false:=X6.2 (by omega);have ag:(i:Int)<(w.V.length:Int):=by omega
 clear h F E;go_enter func8,ntmps8;go_upto_region 1 with fail
 rw[L.o];go_upto_region 2 with (go_at_call 10;refine Xx U.o ?_;rintro e K ⟨rfl,P⟩)
 have g:Xq (iW K b f.heap.size I w l 10 d N m y n):=X.o.Zbj P;clear t u Q R S T z P;obtain⟨t,u,-⟩:=dG g.o.o;have z:=ah g.o.o;have D:K.cell? ⟨b,0,none⟩=some (slice w.hx.ao w.V.length w.hx.cap):=by rw[ab g.o.m.Zbx];rfl
 go_upto_region 4 with fail
 go_quiet ((go_at_call 11;exact XW (k.o _)));go_upto_region 5 with fail
 obtain⟨A,r⟩:=aP (K.drewN nq);rw[r.o];have c:Xq (iW A b f.heap.size I w l 10 d N m y n):=g.o.Zbj (by rw[<-r.o];exact bH.drewN nq);clear t u z D;obtain⟨t,u,Q,R,S,T,z⟩:=dG c.o.o;obtain⟨x,ai,fs,hd,lo,hi,H,G,st,g1,g2,a,⟨M,z1,d1⟩,O,z2,d2⟩:=c.o.m.ver s;have D:A.cell? ⟨b,0,none⟩=some (slice w.hx.ao w.V.length w.hx.cap):=by rw[ab c.o.m.Zbx];rfl
 have Z:A.cell? ⟨b,1,none⟩=some (slice w.hm.ao w.V.length w.hm.cap):=by rw[ab c.o.m.Zbx];rfl
 rw[M]at D;rw[O]at Z;have C:Xq _:=Fm x ai fs hd lo hi H G st y A a.p a.d a.ok a.far;have j:Xq _:=a;clear a M O;go_wp2_with (go_at_call 15;refine Xx C.o ?_;rintro e w3 ⟨rfl,⟨al,l1,u1,l3,u3,q1,q2,q3,q4,q5⟩,q6⟩);go_ret;exact⟨rfl,c.o.m.both j.o.v j.o.i6 j.o.i7 q1 q3 q2 q4 (fun q hq=>XQ hq) q5 q6 j.o.ok⟩
theorem zcd(h:cU f b I w l)(hV:w.V.length≠0)(hA:tP d)(hN:l<=1073741824)(hs:y.size<=1073741824)(ht:n.size<=1073741824) :
  Calls prog 8 #[pointer (some ⟨b,0,none⟩),agg #[int i64 9,int i64 d,int i64 N,int i64 m,string y,string n]] f fun e w'=>jS b I w l true e w':=by
 obtain⟨W,HW⟩:=aP (f.alloc (.cells #[int i64 9,int i64 d,int i64 N,int i64 m,string y,string n] 28));obtain⟨hM,hB,ar,-⟩:=h.boxed 9 d N m y n W HW.o;obtain⟨P,Q,o2,o3,U,X,D⟩:=dG hB;have HL:Xq _:=(mX b l I w 9 d N m y n W hM (by omega));have HS:Xq (iW W b f.heap.size I w l 9 d N m y n):=⟨hM,hB⟩;have aq:=h.len.1;have H:Xq (∀wx,Calls prog 11 #[int i64 d,int i64 w.V.length] wx fun e w'=>e=returned (int i64 (fH d w.V.length:Nat))/\w'=wx):=fun wx=>fS d w.V.length wx hA ⟨by omega,by omega⟩;have L:=iw d w.V.length (by omega);obtain⟨i,Hi⟩:=aP (fH d w.V.length);rw[Hi.o]at H L;have ap:((w.V.length:Int)==0)=false:=X6.2 (by omega);have av:(i:Int)<(w.V.length:Int):=by omega
 have ad:Xq (cU f b I w l):=h;clear h hM hB;go_enter func8,ntmps8;go_upto_region 1 with fail
 rw[HW.o];go_upto_region 2 with (go_at_call 10;refine Xx HL.o ?_;rintro e w1 ⟨rfl,k1⟩)
 have k:Xq (iW w1 b f.heap.size I w l 9 d N m y n):=HS.o.Zbj k1;clear P Q o2 o3 U X D k1;obtain⟨P,Q,-⟩:=dG k.o.o;have D:=ah k.o.o;have T:w1.cell? ⟨b,0,none⟩=some (slice w.hx.ao w.V.length w.hx.cap):=by rw[ab k.o.m.Zbx];rfl
 go_upto_region 4 with fail
 go_quiet ((go_at_call 11;exact XW (H.o _)));go_upto_region 5 with fail
 obtain⟨S,K⟩:=aP (w1.drewN nq);rw[K.o];have c:Xq (iW S b f.heap.size I w l 9 d N m y n):=k.o.Zbj (by rw[<-K.o];exact bH.drewN nq);clear P Q D T;obtain⟨P,Q,o2,o3,U,X,D⟩:=dG c.o.o;obtain⟨x,C,A,B,lo,hi,t,s,R,g1,g2,j,⟨e1,z1,d1⟩,e2,z2,d2⟩:=c.o.m.ver L;have T:S.cell? ⟨b,0,none⟩=some (slice w.hx.ao w.V.length w.hx.cap):=by rw[ab c.o.m.Zbx];rfl
 have c1:S.cell? ⟨b,1,none⟩=some (slice w.hm.ao w.V.length w.hm.cap):=by rw[ab c.o.m.Zbx];rfl
 rw[e1]at T;rw[e2]at c1;have J:Xq _:=(V8 x y n A lo hi R S j.p hs (by omega));have F:Xq (∀u,dY u C A B t s R->Calls prog 14 #[pointer (some ⟨C,0,none⟩),string y,string n] u _):=fun u hr=>U3 C y n A B t s R u hr hs (by omega);have G:Xq (FD (fY A y n).2):=za8 j.ok y n;have a:Xq _:=j;have ac:Xq _:=c.o.o;have ai:Xq (x≠f.heap.size):=fun e=>by
  have p:=ad.o.sep.all (6,i);rw[j.i6]at p;have:=eM.lt p x Yg;omega
 generalize oo (fY A y n).1 R=am at *;generalize fY A y n=pf at *;obtain⟨r,al⟩:=pf;simp only at J F G;clear j e1 e2;go_upto_region 18 with (go_at_call 13;refine Xx J.o ?_;rintro e u ⟨rfl,Y,Z⟩)
 have af:Xq (dY u C A B t s R):=a.o.d.Zbw Z (fun q g M=>a.o.far x Yg (by rw[<-XH.1 M];exact g));have ag:Xq (eM u x al lo hi am):=Y;have E:Xq _:=Z;have B3:=Z.get ac.o (by simp;exact fun e=>ai.o e.symm);clear P Q o2 o3 U X D T c1 z1 d1 z2 d2 Y Z;obtain⟨-,-,-,-,U,X,D⟩:=dG B3;clear B3;go_wp2_with (go_at_call 14;refine Xx (F.o u af.o) ?_;rintro e w4 ⟨rfl,h',Y,q4,q5⟩);go_ret;have O:∀q,h'.Zbx=some q->B.Zbx=some q∨S.heap.size<=q:=fun q g=>(q5 q g).elim XQ (fun z=>XK (XF E.o.size z));have an:∀q,q∈C :: B.Zbx.toList->q∈C :: (B.Zbx.toList++jA t s):=fun q g=>by
  rcases Yd.1 g with e | e
  ·rw[e];exact Yg
  ·exact Yf _ (Yx _ e)
 refine⟨rfl,c.o.m.both a.o.v a.o.i6 a.o.i7 (ag.o.Zbw q4 (fun q g M=>a.o.far q g (an q M))) Y (XQ ⟨rfl,rfl⟩) (XQ ⟨rfl,rfl⟩) O (fun q g M=>?_) ((E.o.mono (fun q g _=>Yx _ g)).trans (q4.mono (fun q g _=>YT _ g))) G.o⟩;exact Mn a.o.far (a.o.p.lt) O q g M
end Go.Proofs.YtpdholcaobgofaaGreat
