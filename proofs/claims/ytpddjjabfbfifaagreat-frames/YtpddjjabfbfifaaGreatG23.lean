import Derived.Test.YtpddjjabfbfifaaGreatG22
namespace Go.Proofs.YtpddjjabfbfifaaGreat
open Go.RowKit Tryz
set_option maxRecDepth 100000
set_option maxHeartbeats 40000000
variable{T y0:World}{x M a z0 z4 y3 y4 y8 y9 y7:Nat}{N yg:Nat×Nat->It}{S:Mc}{I y5:Hd}{f z3:Fs}{zt y1:Option Nat}{yf ya:ByteArray}{yd:List Nat}(D i:Nat)(z6:Fs)(zb:Hd)(g o b l:Nat)(y2:Option Nat)(d:Nat×Nat->It)(w:Mc)(y6 y k L:Int)(v n:ByteArray)(H:World)
theorem OY:(prog.info? 46).map (fun i=>(i.zero,i.size,i.bytes))=some (some (.pointer none),1,8):=by kernel_rfl
theorem OW:(prog.info? 47).map (fun i=>(i.zero,i.size,i.bytes))=some (some (.pointer none),1,8):=by kernel_rfl
theorem za(L:List Nat)(x:Nat):(⟨(lA l L).e,(lA l L).size,(lA l L).n+1,(lA l L).xs++[NX x]⟩:dN)=lA l (L++[x]):=by
 simp[lA]
theorem bZ.addV(h:bZ T x N S M)(c:yg=fk (fk N (6,S.V.length) (O4 a [] 0 0 none)) (7,S.V.length) (O3 z0 ⟨none,0⟩ [] 0 0 none))(o:nI y0 (fk (fk (fk (fk yg (1,0) (ce I (lA 46 (S.V.map (·.1)++[a])))) (0,0) (rA x 42 (S.cells.set 0 (.slice I.ao (S.V.length+1) I.cap)))) (2,0) (ce y5 (lA 47 (S.V.map (·.2.1)++[z0])))) (0,0) (rA x 42 ((S.cells.set 0 (.slice I.ao (S.V.length+1) I.cap)).set 1 (.slice y5.ao (S.V.length+1) y5.cap))))) :
  ∃n k,bZ y0 x n k (M+1)/\rg N S n k:=by
 refine⟨_,{ S with hx:=I,hm:=y5,V:=S.V++[(a,z0,[])] },⟨o,?_,?_,?_,?_,?_,?_,?_,?_,?_,?_,?_⟩,?_⟩
 ·rw[bJ];unfold Mc.cells;rw[QZ];rfl
 ·rw[aq _ _ (bn (by decide)),aq _ _ (bn (by decide)),aq _ _ (bn (by decide)),bJ,Rx];rfl
 ·rw[aq _ _ (bn (by decide)),bJ,Rx];rfl
 ·subst c;simp only[fk];exact h.r
 ·subst c;simp only[fk];exact h.ls
 ·subst c;simp only[fk];exact h.lw
 ·intro i d m f b
  rw[aq _ _ (bn (by decide)),aq _ _ (bn (by decide)),aq _ _ (bn (by decide)),aq _ _ (bn (by decide)),aq _ _ (bn (by decide)),aq _ _ (bn (by decide)),aq _ _ (bn (by decide)),aq _ _ (bn (by decide))];replace b:(S.V++[(a,z0,[])])[i]?=some (d,m,f):=b;subst c
  by_cases e:i<S.V.length
  ·rw[Q6 e]at b
   rw[aq _ _ (bn (by decide)),aq _ _ (rB (by omega)),aq _ _ (rB (by omega)),aq _ _ (bn (by decide))];exact h.v i d m f b
  ·have p:i=S.V.length:=by
    have:=(Q7.1 b).1;rw[QZ]at this;have:i<S.V.length+1:=this;omega
   subst p;rw[Q4 (QQ _),RV]at b
   cases b
   rw[aq _ _ (bn (by decide)),bJ,bJ];exact⟨⟨none,⟨none,0⟩,0,0,0,0,rfl,rfl⟩,fun j g=>by cases g⟩
 ·intro i d m f b
  subst c;simp only[fk];exact h.more.l i d m f b
 ·exact h.fit
 ·refine⟨?_,h.more.len.2.1,h.more.len.2.2⟩
  have:=h.len.1
  show(S.V++[(a,z0,[])]).length<=_
  rw[QZ];show _+1<=_;omega
 ·exact h.rng
 ·subst c;exact⟨fun j i g=>by(repeat rw[oX (by decide) g]),rfl,rfl⟩
theorem O9(h:bZ H b d w l)(hN:l<=1073741824) :
  Calls prog 11 #[.pointer (some ⟨b,0,none⟩),.agg #[.int .i64 1,.int .i64 y,.int .i64 k,.int .i64 L,.string v,.string n]] H fun e w'=>iB b d w l true e w':=by
 obtain⟨W,HW⟩:∃W,Hid (H.alloc (.cells #[.int .i64 1,.int .i64 y,.int .i64 k,.int .i64 L,.string v,.string n] 28)=W):=⟨_,rfl⟩
 obtain⟨hM,hB,ar,-⟩:=h.boxed 1 y k L v n W HW.out;obtain⟨o0,-⟩:=cQ hB;have oz:=ae hB;obtain⟨iX,af,O,D,E⟩:=Rd OY;obtain⟨iM,Z,C,B,G⟩:=Rd OW;have u:Hid (bZ W b d w l):=hM;have ap:Hid ((lA 46 (w.V.map (·.1))).n<=4294967296):=by show(w.V.map _).length<=_;rw[Rh];have:=h.len.1;omega
 have ad:Hid ((lA 47 (w.V.map (·.2.1))).n<=4294967296):=by show(w.V.map _).length<=_;rw[Rh];have:=h.len.1;omega
 have S:Hid ((lA 46 (w.V.map (·.1))).n=w.V.length):=Rh _;have K:Hid ((lA 47 (w.V.map (·.2.1))).n=w.V.length):=Rh _;clear h hM hB;go_enter func11,ntmps11
 go_upto_region 1 with fail
 rw[HW.out]
 go_upto_region 5 with (go_at_call 27;refine QT (NM W) ?_;rintro e T ⟨rfl,hX,k1⟩)
 have S1:=hI (u.out.sep.put (6,w.V.length) (O4 W.heap.size [] 0 0 none) (k1.mono (by simp)) ⟨Rn _,hX⟩ (fun q i=>QU (by rcases Ri.1 i with e | e;exact UR e.symm;exact absurd (nf.1 e).2 (TZ _))))
 go_upto_region 6 with (go_at_call 28;refine QT (IV T) ?_;rintro e w2 ⟨rfl,hY,k2⟩)
 have S2:=hI (S1.out.put (7,w.V.length) (O3 T.heap.size ⟨none,0⟩ [] 0 0 none) (k2.mono (by simp)) ⟨Rn _,_,_,_,hY⟩ (fun q i=>QU (by rcases Ri.1 i with e | e;exact UR e.symm;exact absurd (nf.1 (show q∈ie 0 0 from e)).2 (TZ _))));have a:=(show Hid _ from(u.out.Va k1).Va k2);clear hX hY k1 k2;have c0:w2.cell? ⟨b,0,none⟩=some (.slice w.hx.ao w.V.length w.hx.cap):=by rw[aa a.out.blk];rfl
 have fb:=am a.out.blk;have bz:=ae a.out.blk;have M:=a.out.ownX;have P:Hid (b∉w.hx.blk.toList):=fun i=>a.out.sep.far (0,0) (1,0) (bn (by decide)) b (by rw[a.out.w0];exact Q8.2 rfl) (by rw[a.out.x];exact i)
 obtain⟨J,s⟩:∃J,Hid (J=fk (fk d (6,w.V.length) (O4 W.heap.size [] 0 0 none)) (7,w.V.length) (O3 T.heap.size ⟨none,0⟩ [] 0 0 none)):=⟨_,rfl⟩
 rw[<-s.out]at S2;have an:Hid (J (0,0)=rA b 42 w.cells):=by show _=_;rw[s.out,aq _ _ (bn (by decide)),aq _ _ (bn (by decide))];exact u.out.w0
 have ag:Hid (J (1,0)=ce w.hx (lA 46 (w.V.map (·.1)))):=by show _=_;rw[s.out,aq _ _ (bn (by decide)),aq _ _ (bn (by decide))];exact u.out.x
 have ac:Hid (J (2,0)=ce w.hm (lA 47 (w.V.map (·.2.1)))):=by show _=_;rw[s.out,aq _ _ (bn (by decide)),aq _ _ (bn (by decide))];exact u.out.m
 obtain⟨X,Q⟩:∃X,Hid (W.heap.size=X):=⟨_,rfl⟩
 obtain⟨Y,F⟩:∃Y,Hid (T.heap.size=Y):=⟨_,rfl⟩
 rw[Q.out,F.out]at s;rw[Q.out,F.out]
 go_upto_region 7 with (at_builtin;refine cZ w2 rfl (.tmp 29) (.tmp 31) 31 rfl iX (.pointer none) 8 w.hx (lA 46 (w.V.map (·.1))) [NX X] underlying31 af O D E rfl Rb (by rw[S.out];simp[Act.eval]) M ap.out (by omega) (by simp[Act.eval]) rfl (by simp[NX,Value.oneCell']) ?_;intro c w5 j o;rw[za]at j;have U:=o.kept.get a.out.blk P.out;have f5:=am U;have c5:w5.cell? ⟨b,0,none⟩=some (.slice w.hx.ao w.V.length w.hx.cap):=(by rw[aa U];rfl);have z5:=ae U)
 rw[S.out];have t:=hI (S2.out.grown an.out (bn (by decide)) ag.out o j 0 (.slice c.ao (w.V.length+1) c.cap));obtain⟨z,al⟩:∃z,Hid (w5.setCell ⟨b,0,none⟩ (.slice c.ao (w.V.length+1) c.cap)=z):=⟨_,rfl⟩
 rw[al.out]at t ⊢;have f:=hI (bJ (fk J (1,0) (ce c (lA 46 (w.V.map (·.1)++[X])))) (0,0) (rA b 42 (w.cells.set 0 (.slice c.ao (w.V.length+1) c.cap))));obtain⟨J6,r⟩:∃J6,Hid (fk (fk J (1,0) (ce c (lA 46 (w.V.map (·.1)++[X])))) (0,0) (rA b 42 (w.cells.set 0 (.slice c.ao (w.V.length+1) c.cap)))=J6):=⟨_,rfl⟩
 have g:Hid (J6 (2,0)=ce w.hm (lA 47 (w.V.map (·.2.1)))):=by show _=_;rw[<-r.out,aq _ _ (bn (by decide)),aq _ _ (bn (by decide))];exact ac.out
 rw[r.out]at t f
 have R:z.heap[b]?=some (.cells (w.cells.set 0 (.slice c.ao (w.V.length+1) c.cap)).toArray 42 (0,0)):=by
  have:=t.out.all (0,0);rw[f.out]at this;exact this
 have ai:=hI R
 have I:aw z w.hm (lA 47 (w.V.map (·.2.1))):=by
  have:=t.out.all (2,0);rw[g.out]at this;exact this
 have p:Hid (b∉w.hm.blk.toList):=fun i=>t.out.far (0,0) (2,0) (bn (by decide)) b (by rw[f.out];exact Q8.2 rfl) (by rw[g.out];exact i)
 clear U f5 c5 z5 j o c0 fb bz M;have c1:z.cell? ⟨b,1,none⟩=some (.slice w.hm.ao w.V.length w.hm.cap):=by rw[aa R];rfl
 have fb:=am R;have bz:=ae R;clear R;go_wp2_with (at_builtin;refine cZ z rfl (.tmp 39) (.tmp 41) 32 rfl iM (.pointer none) 8 w.hm (lA 47 (w.V.map (·.2.1))) [NX Y] underlying32 Z C B G rfl Rb (by rw[K.out];simp[Act.eval]) I ad.out (by omega) (by simp[Act.eval]) rfl (by simp[NX,Value.oneCell']) ?_;intro h7 w7 A N;rw[za]at A;have p7:=N.kept.get ai.out p.out;have f7:=am p7;have c7:w7.cell? ⟨b,1,none⟩=some (.slice w.hm.ao w.V.length w.hm.cap):=(by rw[aa p7];rfl);have z7:=ae p7;rw[K.out]);go_ret;have S7:=t.out.grown f.out (bn (by decide)) g.out N A 1 (.slice h7.ao (w.V.length+1) h7.cap);rw[<-r.out]at S7;exact⟨rfl,u.out.addV s.out S7⟩
theorem Lu:(prog.info? 33).map (fun i=>(i.zero,i.size,i.bytes))=some (some (.slice none 0 0),1,24):=by kernel_rfl
theorem qs(L:List (Option Nat×Fs))(x:Option Nat×Fs):(⟨(ig L).e,(ig L).size,(ig L).n+1,(ig L).xs++[Ah x]⟩:dN)=ig (L++[x]):=by
 simp[ig]
theorem aw.srcO(o:aw T I (cr f)):kQ T I.ao f:=by
 intro k b;obtain⟨g,e,d,c,a⟩:=o.srcFi.2 k b;exact⟨g,0,e,d,by rw[SG];exact c,by rw[SG];exact a⟩
theorem bZ.addL{a c:Option Nat}{fs:Fs}(h:bZ T x N S M)(q:kZ fs)(o:fs.length<=M+1)(d:yg=fk (fk (fk N (8,S.L.length) (uH a fs)) (4,0) (ce I (ig (S.L.map (fun l=>(l.1,l.2.2))++[(a,fs)])))) (0,0) (rA x 42 (S.cells.set 3 (.slice I.ao (S.L.length+1) I.cap))))(s:nI y0 (fk (fk (fk yg (9,S.L.length) (uH c fs)) (5,0) (ce y5 (ig (S.L.map (fun l=>(l.2.1,l.2.2))++[(c,fs)])))) (0,0) (rA x 42 ((S.cells.set 3 (.slice I.ao (S.L.length+1) I.cap)).set 4 (.slice y5.ao (S.L.length+1) y5.cap))))) :
  ∃k n,bZ y0 x k n (M+1)/\rg N S k n:=by
 refine⟨_,{ S with hl:=I,hc:=y5,L:=S.L++[(a,c,fs)] },⟨s,?_,?_,?_,?_,?_,?_,?_,?_,?_,?_,?_⟩,?_⟩
 ·rw[bJ];unfold Mc.cells;rw[QZ];rfl
 ·subst d;simp only[fk];exact h.x
 ·subst d;simp only[fk];exact h.m
 ·subst d;simp only[fk];exact h.r
 ·subst d;rw[aq _ _ (bn (by decide)),aq _ _ (bn (by decide)),aq _ _ (bn (by decide)),aq _ _ (bn (by decide)),bJ,Rx];rfl
 ·rw[aq _ _ (bn (by decide)),bJ,Rx];rfl
 ·intro i g m fs b
  subst d;simp only[fk];exact h.v i g m fs b
 ·intro i g m f b
  rw[aq _ _ (bn (by decide)),aq _ _ (bn (by decide)),aq _ _ (bn (by decide)),aq _ _ (bn (by decide)),aq _ _ (bn (by decide))];replace b:(S.L++[(a,c,fs)])[i]?=some (g,m,f):=b;subst d;rw[aq _ _ (bn (by decide)),aq _ _ (bn (by decide))]
  by_cases e:i<S.L.length
  ·rw[Q6 e]at b
   rw[aq _ _ (rB (by omega)),aq _ _ (rB (by omega)),aq _ _ (bn (by decide)),aq _ _ (bn (by decide)),aq _ _ (bn (by decide))];exact h.more.l i g m f b
  ·have t:i=S.L.length:=by
    have:=(Q7.1 b).1;rw[QZ]at this;have:i<S.L.length+1:=this;omega
   subst t;rw[Q4 (QQ _),RV]at b
   cases b
   rw[bJ,bJ];exact⟨rfl,rfl,q,o⟩
 ·exact h.fit
 ·refine⟨h.more.len.1,h.more.len.2.1,?_⟩
  have:=h.len.2.2
  show(S.L++[(a,c,fs)]).length<=_
  rw[QZ];show _+1<=_;omega
 ·exact h.rng
 ·subst d;exact⟨fun j i p=>by(repeat rw[oX (by decide) p]),rfl,rfl⟩
theorem nI.rowAt{c:List Value}{k:Nat×Nat}{r:dN}(s:nI T N)(a:N (0,0)=rA x M c)(b:k≠(0,0))(e:N k=ce I r):T.heap[x]?=some (.cells c.toArray M (0,0))/\aw T I r/\x∉I.blk.toList:=by
 refine⟨?_,?_,fun d=>s.far (0,0) k (Ne.symm b) x (by rw[a];exact Q8.2 rfl) (by rw[e];exact d)⟩
 ·have:=s.all (0,0);rw[a]at this;exact this
 ·have:=s.all k;rw[e]at this;exact this
theorem Pd(h:bZ H b d w l)(hN:l<=1073741824) :
  Calls prog 11 #[.pointer (some ⟨b,0,none⟩),.agg #[.int .i64 5,.int .i64 y,.int .i64 k,.int .i64 L,.string v,.string n]] H fun e w'=>iB b d w l true e w':=by
 obtain⟨W,HW⟩:∃W,Hid (H.alloc (.cells #[.int .i64 5,.int .i64 y,.int .i64 k,.int .i64 L,.string v,.string n] 28)=W):=⟨_,rfl⟩
 obtain⟨x,Z,ag,-⟩:=h.boxed 5 y k L v n W HW.out;obtain⟨o0,-⟩:=cQ Z;have oz:=ae Z;obtain⟨iX,F,p,o,r⟩:=Rd Lu;have HM:Hid (bZ W b d w l):=x;have af:Hid ((ig (w.L.map (fun f=>(f.1,f.2.2)))).n<=4294967296):=by show(w.L.map _).length<=_;rw[Rh];have:=h.len.2.2;omega
 have ac:Hid ((ig (w.L.map (fun f=>(f.2.1,f.2.2)))).n<=4294967296):=by show(w.L.map _).length<=_;rw[Rh];have:=h.len.2.2;omega
 have Q:Hid ((ig (w.L.map (fun f=>(f.1,f.2.2)))).n=w.L.length):=Rh _;have M:Hid ((ig (w.L.map (fun f=>(f.2.1,f.2.2)))).n=w.L.length):=Rh _;have X:Hid (nI W (fk d (8,w.L.length) (uH none []))):=x.sep.put _ _ (ab.refl _ _) ⟨fun _=>rfl,fun b e=>by cases e⟩ (fun q hq=>by cases hq);obtain⟨J,B⟩:∃J,Hid (J=fk d (8,w.L.length) (uH none [])):=⟨_,rfl⟩
 rw[<-B.out]at X;have O:Hid (J (0,0)=rA b 42 w.cells):=by show _=_;rw[B.out,aq _ _ (bn (by decide))];exact x.w0
 have D:Hid (J (4,0)=ce w.hl (ig (w.L.map (fun f=>(f.1,f.2.2))))):=by show _=_;rw[B.out,aq _ _ (bn (by decide))];exact x.ls
 have Y:Hid (J (5,0)=ce w.hc (ig (w.L.map (fun f=>(f.2.1,f.2.2))))):=by show _=_;rw[B.out,aq _ _ (bn (by decide))];exact x.lw
 obtain⟨S,N,m⟩:=X.out.rowAt O.out (bn (by decide)) D.out;have T:Hid (W.heap[b]?=some (.cells w.cells.toArray 42 (0,0))/\b∉w.hl.blk.toList):=⟨S,m⟩;have c0:W.cell? ⟨b,3,none⟩=some (.slice w.hl.ao w.L.length w.hl.cap):=by rw[aa S];rfl
 have fb:=am S;have bz:=ae S;clear h x Z S m;go_enter func11,ntmps11
 go_upto_region 1 with fail
 rw[HW.out]
 go_upto_region 22 with (at_builtin;refine cZ W rfl (.tmp 105) (.tmp 106) 34 rfl iX (.slice none 0 0) 24 w.hl (ig (w.L.map (fun f=>(f.1,f.2.2)))) [Ah (none,[])] underlying34 F p o r rfl Rb (by rw[Q.out];simp[Act.eval]) N af.out (by omega) (by simp[Act.eval]) rfl (by simp[Ah,Value.oneCell']) ?_;intro g w5 t u;rw[qs]at t;have V:=u.kept.get T.out.1 T.out.2;have f5:=am V;have c5:w5.cell? ⟨b,3,none⟩=some (.slice w.hl.ao w.L.length w.hl.cap):=(by rw[aa V];rfl);have z5:=ae V)
 rw[Q.out];have S5:=hI (X.out.grown O.out (bn (by decide)) D.out u t 3 (.slice g.ao (w.L.length+1) g.cap));obtain⟨z,ad⟩:∃z,Hid (w5.setCell ⟨b,3,none⟩ (.slice g.ao (w.L.length+1) g.cap)=z):=⟨_,rfl⟩
 rw[ad.out]at S5 ⊢;obtain⟨E,A⟩:∃E,E=fk (fk J (4,0) (ce g (ig (w.L.map (fun f=>(f.1,f.2.2))++[(none,[])])))) (0,0) (rA b 42 (w.cells.set 3 (.slice g.ao (w.L.length+1) g.cap))):=⟨_,rfl⟩
 have i:=hI A;clear A;rw[<-i.out]at S5;have S6:Hid (nI z (fk E (9,w.L.length) (uH none []))):=S5.out.put _ _ (ab.refl _ _) ⟨fun _=>rfl,fun b e=>by cases e⟩ (fun q hq=>by cases hq);have G:Hid (fk E (9,w.L.length) (uH none []) (0,0)=rA b 42 (w.cells.set 3 (.slice g.ao (w.L.length+1) g.cap))):=by show _=_;rw[aq _ _ (bn (by decide)),i.out,bJ]
 have I:Hid (fk E (9,w.L.length) (uH none []) (5,0)=ce w.hc (ig (w.L.map (fun f=>(f.2.1,f.2.2))))):=by show _=_;rw[aq _ _ (bn (by decide)),i.out,aq _ _ (bn (by decide)),aq _ _ (bn (by decide))];exact Y.out
 obtain⟨P,K,s⟩:=S6.out.rowAt G.out (bn (by decide)) I.out;have R:Hid (z.heap[b]?=some (.cells (w.cells.set 3 (.slice g.ao (w.L.length+1) g.cap)).toArray 42 (0,0))/\b∉w.hc.blk.toList):=⟨P,s⟩;clear V f5 c5 z5 t u c0 fb bz N;have c1:z.cell? ⟨b,4,none⟩=some (.slice w.hc.ao w.L.length w.hc.cap):=by rw[aa P];rfl
 have fb:=am P;have bz:=ae P;clear P s;go_wp2_with (at_builtin;refine cZ z rfl (.tmp 115) (.tmp 116) 34 rfl iX (.slice none 0 0) 24 w.hc (ig (w.L.map (fun f=>(f.2.1,f.2.2)))) [Ah (none,[])] underlying34 F p o r rfl Rb (by rw[M.out];simp[Act.eval]) K ac.out (by omega) (by simp[Act.eval]) rfl (by simp[Ah,Value.oneCell']) ?_;intro h7 w7 C U;rw[qs]at C;have p7:=U.kept.get R.out.1 R.out.2;have f7:=am p7;have c7:w7.cell? ⟨b,4,none⟩=some (.slice w.hc.ao w.L.length w.hc.cap):=(by rw[aa p7];rfl);have z7:=ae p7;rw[M.out]);go_ret;have S7:=S6.out.grown G.out (bn (by decide)) I.out U C 4 (.slice h7.ao (w.L.length+1) h7.cap);exact⟨rfl,HM.out.addL (a:=none) (c:=none) (fs:=[]) (fun j=>⟨by show(0:Nat)<=_;omega,by show(0:Nat)<=_;omega⟩) (Rn _) (by rw[i.out,B.out]) S7⟩
theorem Pc(h:bZ H b d w l)(hN:l<=1073741824) :
  Calls prog 11 #[.pointer (some ⟨b,0,none⟩),.agg #[.int .i64 4,.int .i64 y,.int .i64 k,.int .i64 L,.string v,.string n]] H fun e w'=>iB b d w l true e w':=by
 obtain⟨W,HW⟩:∃W,Hid (H.alloc (.cells #[.int .i64 4,.int .i64 y,.int .i64 k,.int .i64 L,.string v,.string n] 28)=W):=⟨_,rfl⟩
 obtain⟨Q,hB,a2,-⟩:=h.boxed 4 y k L v n W HW.out;obtain⟨o0,-⟩:=cQ hB;have oz:=ae hB;obtain⟨iX,ac,x,m,o⟩:=Rd Lu;have C:Hid (bZ W b d w l):=Q;have D:Hid (w.reg.length<=l):=h.len.2.1;have a1:Hid ((ig (w.L.map (fun f=>(f.1,f.2.2)))).n<=4294967296):=by show(w.L.map _).length<=_;rw[Rh];have:=h.len.2.2;omega
 have ax:Hid ((ig (w.L.map (fun f=>(f.2.1,f.2.2)))).n<=4294967296):=by show(w.L.map _).length<=_;rw[Rh];have:=h.len.2.2;omega
 have al:Hid ((ig (w.L.map (fun f=>(f.1,f.2.2)))).n=w.L.length):=Rh _;have X:Hid ((ig (w.L.map (fun f=>(f.2.1,f.2.2)))).n=w.L.length):=Rh _;have aT:Hid (Calls prog 29 #[.slice w.hr.ao w.reg.length w.hr.cap] W _):=jE w.hr.ao w.hr.cap w.reg W Q.ownR.srcO (by have:=D.out;omega);have c2:W.cell? ⟨b,2,none⟩=some (.slice w.hr.ao w.reg.length w.hr.cap):=by rw[aa Q.blk];rfl
 have G:=ae Q.blk;clear h Q hB;go_enter func11,ntmps11
 go_upto_region 1 with fail
 rw[HW.out]
 go_upto_region 14 with (go_at_call 29;refine QT aT.out ?_;rintro e w1 ⟨rfl,U,k1⟩)
 have S1:Hid (nI w1 (fk d (8,w.L.length) (uH (some W.heap.size) w.reg))):=C.out.sep.put _ _ (k1.mono (by simp)) ⟨(fun e=>by cases e),(fun q e=>by cases e;exact U)⟩ (fun q hq=>QU (by rw[Q8.1 hq];exact QQ _));obtain⟨K,ap⟩:∃K,Hid (W.heap.size=K):=⟨_,rfl⟩
 rw[ap.out]at S1 ⊢;obtain⟨J,F⟩:∃J,Hid (J=fk d (8,w.L.length) (uH (some K) w.reg)):=⟨_,rfl⟩
 rw[<-F.out]at S1;have ai:Hid (J (0,0)=rA b 42 w.cells):=by show _=_;rw[F.out,aq _ _ (bn (by decide))];exact C.out.w0
 have an:Hid (J (3,0)=ce w.hr (cr w.reg)):=by show _=_;rw[F.out,aq _ _ (bn (by decide))];exact C.out.r
 have O:Hid (J (4,0)=ce w.hl (ig (w.L.map (fun f=>(f.1,f.2.2))))):=by show _=_;rw[F.out,aq _ _ (bn (by decide))];exact C.out.ls
 have ar:Hid (J (5,0)=ce w.hc (ig (w.L.map (fun f=>(f.2.1,f.2.2))))):=by show _=_;rw[F.out,aq _ _ (bn (by decide))];exact C.out.lw
 obtain⟨T,Z,u⟩:=S1.out.rowAt ai.out (bn (by decide)) O.out;have af:Hid (w1.heap[b]?=some (.cells w.cells.toArray 42 (0,0))/\b∉w.hl.blk.toList):=⟨T,u⟩;have c0:w1.cell? ⟨b,3,none⟩=some (.slice w.hl.ao w.L.length w.hl.cap):=by rw[aa T];rfl
 have fb:=am T;clear G;have G:=ae T;clear T u c2 k1 U
 go_upto_region 16 with (at_builtin;refine cZ w1 rfl (.tmp 76) (.tmp 78) 34 rfl iX (.slice none 0 0) 24 w.hl (ig (w.L.map (fun f=>(f.1,f.2.2)))) [Ah (some K,w.reg)] underlying34 ac x m o rfl Rb (by rw[al.out];simp[Act.eval]) Z a1.out (by omega) (by simp[Act.eval]) rfl (by simp[Ah,Value.oneCell']) ?_;intro g w5 z A;rw[qs]at z;have p5:=A.kept.get af.out.1 af.out.2;have f5:=am p5;have c5:w5.cell? ⟨b,3,none⟩=some (.slice w.hl.ao w.L.length w.hl.cap):=(by rw[aa p5];rfl);have z5:=ae p5)
 rw[al.out];have S5:=hI (S1.out.grown ai.out (bn (by decide)) O.out A z 3 (.slice g.ao (w.L.length+1) g.cap));obtain⟨E,a0⟩:∃E,Hid (w5.setCell ⟨b,3,none⟩ (.slice g.ao (w.L.length+1) g.cap)=E):=⟨_,rfl⟩
 rw[a0.out]at S5 ⊢;obtain⟨B,M⟩:∃B,B=fk (fk J (4,0) (ce g (ig (w.L.map (fun f=>(f.1,f.2.2))++[(some K,w.reg)])))) (0,0) (rA b 42 (w.cells.set 3 (.slice g.ao (w.L.length+1) g.cap))):=⟨_,rfl⟩
 have i:=hI M;clear M;rw[<-i.out]at S5;have aS:Hid (B (3,0)=ce w.hr (cr w.reg)):=by show _=_;rw[i.out,aq _ _ (bn (by decide)),aq _ _ (bn (by decide))];exact an.out
 have s:Hid (B (0,0)=rA b 42 (w.cells.set 3 (.slice g.ao (w.L.length+1) g.cap))):=by show _=_;rw[i.out,bJ]
 obtain⟨j,t,-⟩:=S5.out.rowAt s.out (bn (by decide)) aS.out;have Y:Hid (Calls prog 29 #[.slice w.hr.ao w.reg.length w.hr.cap] E _):=jE w.hr.ao w.hr.cap w.reg E t.srcO (by have:=D.out;omega);clear p5 f5 c5 z5 z A c0 fb G Z t;have c2:E.cell? ⟨b,2,none⟩=some (.slice w.hr.ao w.reg.length w.hr.cap):=by rw[aa j];rfl
 have G:=ae j;clear j
 go_upto_region 17 with (go_at_call 29;refine QT Y.out ?_;rintro e w8 ⟨rfl,ad,k2⟩)
 have S6:Hid (nI w8 (fk B (9,w.L.length) (uH (some E.heap.size) w.reg))):=S5.out.put _ _ (k2.mono (by simp)) ⟨(fun e=>by cases e),(fun q e=>by cases e;exact ad)⟩ (fun q hq=>QU (by rw[Q8.1 hq];exact QQ _));obtain⟨I,az⟩:∃I,Hid (E.heap.size=I):=⟨_,rfl⟩
 rw[az.out]at S6 ⊢;clear c2 G k2 ad;have P:Hid (fk B (9,w.L.length) (uH (some I) w.reg) (0,0)=rA b 42 (w.cells.set 3 (.slice g.ao (w.L.length+1) g.cap))):=by show _=_;rw[aq _ _ (bn (by decide))];exact s.out
 have R:Hid (fk B (9,w.L.length) (uH (some I) w.reg) (5,0)=ce w.hc (ig (w.L.map (fun f=>(f.2.1,f.2.2))))):=by show _=_;rw[aq _ _ (bn (by decide)),i.out,aq _ _ (bn (by decide)),aq _ _ (bn (by decide))];exact ar.out
 obtain⟨j,V,p⟩:=S6.out.rowAt P.out (bn (by decide)) R.out;have S:Hid (w8.heap[b]?=some (.cells (w.cells.set 3 (.slice g.ao (w.L.length+1) g.cap)).toArray 42 (0,0))/\b∉w.hc.blk.toList):=⟨j,p⟩;have c1:w8.cell? ⟨b,4,none⟩=some (.slice w.hc.ao w.L.length w.hc.cap):=by rw[aa j];rfl
 have fb:=am j;have G:=ae j;clear j p;go_wp2_with (at_builtin;refine cZ w8 rfl (.tmp 92) (.tmp 94) 34 rfl iX (.slice none 0 0) 24 w.hc (ig (w.L.map (fun f=>(f.2.1,f.2.2)))) [Ah (some I,w.reg)] underlying34 ac x m o rfl Rb (by rw[X.out];simp[Act.eval]) V ax.out (by omega) (by simp[Act.eval]) rfl (by simp[Ah,Value.oneCell']) ?_;intro h7 w7 N ag;rw[qs]at N;have p7:=ag.kept.get S.out.1 S.out.2;have f7:=am p7;have c7:w7.cell? ⟨b,4,none⟩=some (.slice w.hc.ao w.L.length w.hc.cap):=(by rw[aa p7];rfl);have z7:=ae p7;rw[X.out]);go_ret;have S7:=S6.out.grown P.out (bn (by decide)) R.out ag N 4 (.slice h7.ao (w.L.length+1) h7.cap);exact⟨rfl,C.out.addL (a:=some K) (c:=some I) (fs:=w.reg) C.out.fit (by have:=D.out;omega) (by rw[i.out,F.out]) S7⟩
theorem Gt{L:List (Option Nat×Option Nat×Fs)}(c:L[x]?=some (zt,y1,f))(a:Option Nat×Option Nat×Fs->Option Nat×Fs)(d:Ah (a (zt,y1,z3))=Ah (a (zt,y1,f))):ig ((L.set x (zt,y1,z3)).map a)=ig (L.map a):=by
 unfold ig
 have e:((L.set x (zt,y1,z3)).map a).map Ah=(L.map a).map Ah:=by
  rw[Tm,Tm,d]
  apply Sp
  intro j;rw[RT]
  by_cases b:x=j
  ·subst b
   rw[QV rfl,Rp,Rp,c];have:=(Q7.1 c).1;simp[this]
  ·rw[QS b]
 rw[e,Rh,Ru,Rh]
theorem Ip(h:kZ f)(i:Nat)(b:yf.size<=1073741824)(a:ya.size<=1073741824):kZ (f.set i (yf,ya)):=by
 intro j;have:=h j;unfold aE ak at *;rw[QP]at *;rw[RT]
 by_cases e:i=j
 ·subst e
  rw[QV rfl]
  split
  ·exact⟨b,a⟩
  ·exact⟨by show(0:Nat)<=_;omega,by show(0:Nat)<=_;omega⟩
 ·rw[QS e];exact this
theorem bZ.wrote(h:bZ T x N S M)(g:S.L[a]?=some (zt,y1,f))(n:z3.length=f.length)(w:kZ z3)(p:nI y0 (fk (fk N (8,a) (uH zt z3)) (9,a) (uH y1 z3))):∃o k,bZ y0 x o k (M+1)/\rg N S o k:=by
 refine⟨_,{ S with L:=S.L.set a (zt,y1,z3) },⟨p,?_,?_,?_,?_,?_,?_,?_,?_,?_,?_,?_⟩,?_⟩
 ·rw[aq _ _ (bn (by decide)),aq _ _ (bn (by decide)),h.w0];unfold Mc.cells;rw[Ru]
 ·simp only[fk];exact h.x
 ·simp only[fk];exact h.m
 ·simp only[fk];exact h.r
 ·rw[aq _ _ (bn (by decide)),aq _ _ (bn (by decide)),h.ls]
  congr 1
  exact(Gt g (fun l=>(l.1,l.2.2)) (by simp only[Ah,n])).symm
 ·rw[aq _ _ (bn (by decide)),aq _ _ (bn (by decide)),h.lw]
  congr 1
  exact(Gt g (fun l=>(l.2.1,l.2.2)) (by simp only[Ah,n])).symm
 ·intro i d m f b
  simp only[fk];exact h.v i d m f b
 ·intro i d m c b
  replace b:(S.L.set a (zt,y1,z3))[i]?=some (d,m,c):=b;rw[RT]at b;rw[aq _ _ (bn (by decide))]
  by_cases e:a=i
  ·subst e
   rw[QV rfl,QV (Q7.1 g).1]at b
   cases b
   obtain⟨-,-,-,y⟩:=h.l a zt y1 f g;rw[bJ,bJ];exact⟨rfl,rfl,w,by omega⟩
  ·rw[QS e]at b
   rw[aq _ _ (rB (Ne.symm e)),aq _ _ (rB (Ne.symm e)),aq _ _ (bn (by decide))];exact h.more.l i d m c b
 ·exact h.fit
 ·obtain⟨q,s,t⟩:=h.more.len
  exact⟨q,s,by show(S.L.set a (zt,y1,z3)).length<=_;rw[Ru];exact t⟩
 ·exact h.rng
 ·exact⟨fun j i u=>by(repeat rw[oX (by decide) u]),rfl,rfl⟩
theorem iG.wrote(h:iG T (some x) f)(a:M<f.length)(n d:ByteArray):iG ((T.setCell ⟨x,M*2,none⟩ (.string n)).setCell ⟨x,M*2+1,none⟩ (.string d)) (some x) (f.set M (n,d))/\ab [x] T ((T.setCell ⟨x,M*2,none⟩ (.string n)).setCell ⟨x,M*2+1,none⟩ (.string d)):=by
 refine⟨⟨(fun e=>by cases e),fun q e=>?_⟩,((ab.refl _ _).setCell (Q0 (by simp)) _).setCell (Q0 (by simp)) _⟩
 cases e
 rw[ah (ah (h.blk x rfl) _ _) _ _,Rt,Rt,Gi f M n d a]
theorem iG.cells(h:iG T (some x) f)(b:M<f.length):(T.cell? ⟨x,M*2,none⟩=some (.string (aE f M))/\T.cell? ⟨x,M*2+1,none⟩=some (.string (ak f M)))/\(∀j,T.frozen? ⟨x,j,none⟩=false)/\x<T.heap.size:=by
 have a:=h.blk x rfl;obtain⟨c,d⟩:=v8 f M b;exact⟨⟨by rw[aa a];simpa using c,by rw[aa a];simpa using d⟩,am a,ae a⟩
theorem nZ{L:List (Option Nat×Fs)}(o:aw T I (ig L)){k:Nat}{x:Option Nat×Fs}(a:L[k]?=some x):∃g,I.ao=some ⟨g,0,none⟩/\g<T.heap.size/\T.cell? ⟨g,k,none⟩=some (Ah x):=by
 have h:=(Q7.1 a).1
 rcases o.ways with ⟨_,b,_⟩ | ⟨g,d,c,e,f,-⟩
 ·have b:L.length=0:=b
  omega
 ·exact⟨g,c,ae e,o.cell c k (Ah x) (by show(L.map Ah)[k]?=_;rw[Rp,a];rfl)⟩
theorem Pe(h:bZ H b d w l)(hN:l<=1073741824)(hA:qA y)(hC:qA k)(hs:v.size<=1073741824)(ht:n.size<=1073741824) :
  Calls prog 11 #[.pointer (some ⟨b,0,none⟩),.agg #[.int .i64 6,.int .i64 y,.int .i64 k,.int .i64 L,.string v,.string n]] H fun e w'=>iB b d w l true e w':=by
 obtain⟨W,HW⟩:∃W,Hid (H.alloc (.cells #[.int .i64 6,.int .i64 y,.int .i64 k,.int .i64 L,.string v,.string n] 28)=W):=⟨_,rfl⟩
 obtain⟨s,hB,bf,-⟩:=h.boxed 6 y k L v n W HW.out;obtain⟨o0,o1,o2,o3,V,T,D⟩:=cQ hB;have R:=ae s.blk;have J:W.cell? ⟨b,3,none⟩=some (.slice w.hl.ao w.L.length w.hl.cap):=by rw[aa s.blk];rfl
 by_cases hL:w.L.length=0
 ·have HF:Hid (bZ W b d w l):=s
  rw[hL]at J;clear h s hB;go_enter func11,ntmps11
  go_upto_region 1 with fail
  rw[HW.out];go_wp2;go_ret;exact⟨rfl,_,_,HF.out.more,rg.refl _ _⟩
 ·have bg:=h.len.2.2
  have X:Hid (∀E,Calls prog 12 #[.int .i64 y,.int .i64 w.L.length] E fun e w'=>e=.returned (.int .i64 (eG y w.L.length:Nat))/\w'=E):=fun E=>eQ y w.L.length E hA ⟨by omega,by omega⟩
  have ac:=fY y w.L.length (by omega);obtain⟨j,Hk⟩:∃j,Hid (eG y w.L.length=j):=⟨_,rfl⟩
  rw[Hk.out]at X ac;obtain⟨⟨a,c,f⟩,hk⟩:∃x,w.L[j]?=some x:=⟨w.L[j],QO ac⟩
  have HM:Hid (bZ W b d w l):=s;obtain⟨B,C,t,be⟩:=s.l j a c f hk;obtain⟨gl,Y,Z,u⟩:=nZ s.ownL (k:=j) (x:=(a,f)) (by rw[Rp,hk];rfl);replace u:W.cell? ⟨gl,j,none⟩=some (.slice (wC a) f.length f.length):=u;rw[Y]at J;have a6:(j:Int)<(w.L.length:Int):=by omega
  have bj:(0:Int)<(w.L.length:Int):=by omega
  have az:=hI hk;have H8:=hI B;have H9:=hI C
  by_cases A:f.length=0
  ·rw[A]at u
   clear h s hB hk B C t Y;go_enter func11,ntmps11
   go_upto_region 1 with fail
   rw[HW.out]
   go_upto_region 26 with fail
   go_quiet ((go_at_call 12;exact Rc (X.out _)))
   have HF:Hid (bZ (W.drewN nq) b d w l):=HM.out.Va ((ab.refl [] _).drewN nq);go_wp2;go_ret;exact⟨rfl,_,_,HF.out.more,rg.refl _ _⟩
  ·have ar:Hid (∀E,Calls prog 12 #[.int .i64 k,.int .i64 f.length] E fun e w'=>e=.returned (.int .i64 (eG k f.length:Nat))/\w'=E):=fun E=>eQ k f.length E hC ⟨by omega,by omega⟩
   have o:=fY k f.length (by omega);obtain⟨i,Hi⟩:∃i,Hid (eG k f.length=i):=⟨_,rfl⟩
   rw[Hi.out]at ar o;have O:iG W a f:=by have:=s.sep.all (8,j);rw[B]at this;exact this
   have al:iG W c f:=by have:=s.sep.all (9,j);rw[C]at this;exact this
   obtain⟨m,rfl⟩:∃m,a=some m:=by
    cases a with
    | none=>rw[O.nil rfl]at A;exact absurd rfl A
    | some m=>exact⟨m,rfl⟩
   obtain⟨p,rfl⟩:∃p,c=some p:=by
    cases c with
    | none=>rw[al.nil rfl]at A;exact absurd rfl A
    | some p=>exact⟨p,rfl⟩
   have a0:=(O.cells o).2.2
   have I:m≠H.heap.size:=by
    intro e;have:=(uH (some m) f).lt H (by have:=h.sep.all (8,j);rw[(h.l j _ _ f hk).1]at this;exact this) m (Q8.2 rfl);omega
   have a3:=hI hB;have ad:Hid (kZ (f.set i (v,n))):=Ip t i hs ht;replace u:W.cell? ⟨gl,j,none⟩=some (.slice (some ⟨m,0,none⟩) f.length f.length):=u;have bd:(i:Int)<(f.length:Int):=by omega
   have a7:(0:Int)<(f.length:Int):=by omega
   have a4:=hI I
   have K:Hid (∀r,ab [] W r->(r.cell? ⟨H.heap.size,2,none⟩=some (.int .i64 k)/\r.cell? ⟨H.heap.size,4,none⟩=some (.string v)/\r.cell? ⟨H.heap.size,5,none⟩=some (.string n)/\H.heap.size<r.heap.size)/\(r.cell? ⟨b,3,none⟩=some (.slice (some ⟨gl,0,none⟩) w.L.length w.hl.cap)/\b<r.heap.size)/\r.cell? ⟨gl,j,none⟩=some (.slice (some ⟨m,0,none⟩) f.length f.length)/\gl<r.heap.size):=fun r kw=>by
    have q:∀g i,g<W.heap.size->r.cell? ⟨g,i,none⟩=W.cell? ⟨g,i,none⟩:=fun g i hg=>Q5 (kw.block g hg (by simp))
    have z:=kw.size;exact⟨⟨by rw[q _ _ D];exact o2,by rw[q _ _ D];exact V,by rw[q _ _ D];exact T,by omega⟩,⟨by rw[q _ _ R];exact J,by omega⟩,by rw[q _ _ Z];exact u,by omega⟩
   clear h s hB hk B C t Y O al I a0;go_enter func11,ntmps11
   go_upto_region 1 with fail
   rw[HW.out]
   go_upto_region 26 with fail
   go_quiet ((go_at_call 12;exact Rc (X.out _)))
   go_upto_region 28 with fail
   obtain⟨W2,ap⟩:∃W2,Hid (W.drewN nq=W2):=⟨_,rfl⟩
   rw[ap.out];have an:Hid (ab [] W W2):=by show ab _ _ _;rw[<-ap.out];exact(ab.refl [] _).drewN nq
   clear o0 o1 o2 o3 V T D J R u Z;obtain⟨⟨o2,V,T,D⟩,⟨J,R⟩,u,Z⟩:=K.out W2 an.out
   go_quiet ((go_at_call 12;exact Rc (ar.out _)))
   go_upto_region 29 with fail
   obtain⟨G,af⟩:∃G,Hid (W2.drewN nq=G):=⟨_,rfl⟩
   rw[af.out];have M:Hid (ab [] W G):=by show ab _ _ _;rw[<-af.out];exact an.out.drewN nq
   have ax:Hid (bZ G b d w l):=HM.out.Va M.out;have U:Hid (iG G (some m) f):=by show iG _ _ _;have:=ax.out.sep.all (8,j);rw[H8.out]at this;exact this
   clear o2 V T D J R u Z;obtain⟨⟨o2,V,T,D⟩,⟨J,R⟩,u,Z⟩:=K.out G M.out;obtain⟨⟨d0,d1⟩,df,dz⟩:=U.out.cells o
   go_region
   all_goals
    obtain⟨F,P⟩:∃F,Hid (((G.setCell ⟨m,i*2,none⟩ (.string v)).setCell ⟨m,i*2+1,none⟩ (.string n)).drew=F):=⟨_,rfl⟩
    rw[P.out];have ag:Hid (ab [m] G F):=by show ab _ _ _;rw[<-P.out];exact(U.out.wrote o v n).2.drew
    have S4:Hid (nI F (fk d (8,j) (uH (some m) (f.set i (v,n))))):=by
     show nI _ _
     refine ax.out.sep.put _ _ (by rw[H8.out];exact ag.out) ?_ (fun q hq=>Q0 (by rw[H8.out];exact hq));rw[<-P.out];exact(uH _ _).ok [] _ _ (U.out.wrote o v n).1 (ab.refl [] _).drew (by simp)
    have a2:Hid (fk d (8,j) (uH (some m) (f.set i (v,n))) (0,0)=rA b 42 w.cells):=by show _=_;rw[aq _ _ (bn (by decide))];exact HM.out.w0
    have aT:Hid (fk d (8,j) (uH (some m) (f.set i (v,n))) (5,0)=ce w.hc (ig (w.L.map (fun a5=>(a5.2.1,a5.2.2))))):=by show _=_;rw[aq _ _ (bn (by decide))];exact HM.out.lw
    have Q:Hid (fk d (8,j) (uH (some m) (f.set i (v,n))) (9,j)=uH (some p) f):=by show _=_;rw[aq _ _ (bn (by decide))];exact H9.out
    obtain⟨b4,ai,-⟩:=S4.out.rowAt a2.out (bn (by decide)) aT.out;have N:Hid (iG F (some p) f):=by show iG _ _ _;have:=S4.out.all (9,j);rw[Q.out]at this;exact this
    obtain⟨gr,aS,rz,rc⟩:=nZ ai (k:=j) (x:=(some p,f)) (by rw[Rp,az.out];rfl);replace rc:F.cell? ⟨gr,j,none⟩=some (.slice (some ⟨p,0,none⟩) f.length f.length):=rc;have c4:F.cell? ⟨b,4,none⟩=some (.slice (some ⟨gr,0,none⟩) w.L.length w.hc.cap):=by rw[aa b4,<-aS];rfl
    clear d0 d1 df dz o2 V T D J R u Z;obtain⟨⟨d0,d1⟩,df,dz⟩:=N.out.cells o;have R:=ae b4;have B4:=ag.out.get (M.out.get a3.out (by simp)) (by simp;exact fun e=>a4.out e.symm);obtain⟨-,-,-,-,V,T,D⟩:=cQ B4;clear b4 ai aS B4
    go_upto_region 30 with fail
    go_region
    all_goals
     obtain⟨W5,S⟩:∃W5,Hid (((F.setCell ⟨p,i*2,none⟩ (.string v)).setCell ⟨p,i*2+1,none⟩ (.string n)).drew=W5):=⟨_,rfl⟩
     rw[S.out];have a1:Hid (ab [p] F W5):=by show ab _ _ _;rw[<-S.out];exact(N.out.wrote o v n).2.drew
     have S5:Hid (nI W5 (fk (fk d (8,j) (uH (some m) (f.set i (v,n)))) (9,j) (uH (some p) (f.set i (v,n))))):=by
      show nI _ _
      refine S4.out.put _ _ (by rw[Q.out];exact a1.out) ?_ (fun q hq=>Q0 (by rw[Q.out];exact hq));rw[<-S.out];exact(uH _ _).ok [] _ _ (N.out.wrote o v n).1 (ab.refl [] _).drew (by simp)
     go_wp2;go_ret;exact⟨rfl,HM.out.wrote az.out Ru ad.out S5.out⟩
theorem Cl{o k:Nat}(h:T.heap[x]?=some (.cells (qJ f).toArray 68 (0,0)))(c:o+k<f.length):T.cell? ⟨x,o*2+k*2,none⟩=some (.string (aE f (o+k)))/\T.cell? ⟨x,o*2+k*2+1,none⟩=some (.string (ak f (o+k))):=by
 obtain⟨a,b⟩:=v8 f (o+k) c;rw[Ub]at a b;exact⟨by rw[aa h];simpa using a,by rw[aa h];simpa using b⟩
theorem iG.piece(h:T.heap[x]?=some (.cells (qJ f).toArray 68 (0,0)))(o n:Nat)(l:o+n<=f.length):kQ T (some ⟨x,o*2,none⟩) ((f.drop o).take n):=by
 intro k c;rw[RO,RQ]at c;have e:∀j,j<n->((f.drop o).take n)[j]?=f[o+j]?:=fun j a=>by rw[Ti,QV a,SU]
 obtain⟨d,b⟩:=Cl h (o:=o) (k:=k) (by omega);have g:aE ((f.drop o).take n) k=aE f (o+k):=by unfold aE;rw[QP,QP,e k (by omega)]
 have i:ak ((f.drop o).take n) k=ak f (o+k):=by unfold ak;rw[QP,QP,e k (by omega)]
 exact⟨x,o*2,rfl,ae h,by rw[g];exact d,by rw[i];exact b⟩
theorem iG.src{a:Option Nat}(h:iG T a f):kQ T (wC a) f:=by
 cases a with
 | none=>rw[h.nil rfl];intro k c;cases c
 | some b =>
  have:=iG.piece (h.blk b rfl) 0 f.length (by omega);rw[UZ,RI,US]at this;exact this
theorem kZ.piece(h:kZ f)(o n:Nat):kZ ((f.drop o).take n):=by
 intro j;have a:=h (o+j);unfold aE ak at *;rw[QP]at *;rw[Ti]
 split
 ·rw[SU];exact a
 ·exact⟨by show(0:Nat)<=_;omega,by show(0:Nat)<=_;omega⟩
def Dw(w:World)(x m:Nat)(h:Hd)(lo hi lo2 hi2:Nat)(st:Option Nat)(fs:Fs)(e:Ending)(w':World):Prop :=
 e=.returned (.bool true)/\dE w' x fs lo hi st/\(∃h',dn w' m fs h' lo2 hi2 st/\∀q,h'.blk=some q->h.blk=some q∨w.heap.size<=q)/\ab ([x]++m :: h.blk.toList) w w'
theorem Dz.kept(a:Dz T x I f)(k:ab yd T y0)(e:x∉yd)(b:∀q,I.blk=some q->q∉yd):Dz y0 x I f:=by
 obtain⟨g,c,h,d,a⟩:=a;exact⟨g,c,h,d,a.keptS k e b⟩
theorem kQ.srcF(h:T.heap[x]?=some (.cells (qJ f).toArray 68 (0,0))):mU T (some ⟨x,0,none⟩) f.length f:=by
 refine⟨QQ _,fun k c=>?_⟩;obtain⟨b,a⟩:=Cl h (o:=0) (k:=k) (by omega);rw[US,SG]at b a;exact⟨x,rfl,ae h,by simpa using b,by simpa using a⟩
theorem Ck(f e:Fs)(h:Hd)(G F p n:Nat)(v:Option Nat)(w:World)(hx:dE w D f G F v)(I:dn w i f h p n v)(hb:w.heap[g]?=some (.cells (qJ e).toArray 68 (0,0)))(E:∀q,q∈D :: ie G F->q∉i :: (h.blk.toList++ie p n))(al:g≠D)(ac:g≠i)(U:h.blk≠some g)(hl:o+b+l<=e.length)(hN:e.length<=1073741824)(hf:kZ e) :
  Calls prog 13 #[.pointer (some ⟨D,0,none⟩),.pointer (some ⟨i,0,none⟩),.slice (some ⟨g,0,none⟩) e.length e.length,.int .i64 o,.int .i64 b,.int .i64 l] w fun r u=>Dw w D i h G F p n (ma (dy ((e.drop o).take b)) v) (jt f ((e.drop o).take b)) r u:=by
 have HX:Hid (dE w D f G F v):=hx;have ar:Hid (dn w i f h p n v):=I;have HB:=hI hb;have xz:=hx.anyS.lt;have bz:=ae hb;have HF:=(show Hid (kZ e) from hf);have x:((e.drop o).take b).length=b:=by rw[RO,RQ];omega
 have ax:Hid (∀u,ab [] w u->kQ u (some ⟨g,0,none⟩) e):=fun u k=>(iG.src (a:=some g) ⟨(fun l=>by cases l),fun q l=>by cases l;exact k.get hb (by simp)⟩)
 have an:Hid (∀t s,ab [] w t->(b=0∨s=⟨g,o*2,none⟩)->kQ t (some s) ((e.drop o).take b)):=fun t s k A=>by
  rcases A with l | l
  ·rw[l];intro j hj;rw[Tp]at hj;cases hj
  ·rw[l];exact iG.piece (k.get hb (by simp)) o b (by omega)
 have a0:Hid (Calls prog 29 #[.slice (some ⟨g,0,none⟩) e.length e.length] w _):=jE _ e.length e w (ax.out w (ab.refl _ _)) hN
 have ao:Hid (∀t c s,ab [] w t->(b=0∨s=⟨g,o*2,none⟩)->Calls prog 29 #[.slice (some s) b c] t fun l u=>l=.returned (.slice (some ⟨t.heap.size,0,none⟩) b b)/\u.heap[t.heap.size]?=some (.cells (qJ ((e.drop o).take b)).toArray 68 (0,0))/\ab [] t u):=fun t c s k A=>by
  have:=jE (some s) c ((e.drop o).take b) t (an.out t s k A) (by rw[x];omega);rw[x]at this;exact this
 have a5:Hid (∀H c s,ab [] w H->(b=0∨s=⟨g,o*2,none⟩)->Calls prog 30 #[.pointer (some ⟨D,0,none⟩),.slice (some s) b c] H fun l u=>l=.returned (.int .i64 (dy ((e.drop o).take b)))/\dE u D (jt f ((e.drop o).take b)) G F (ma (dy ((e.drop o).take b)) v)/\ab [D] H u):=fun H c s k A=>by
  have:=CJ D f ((e.drop o).take b) (some s) c G F v H (hx.Va k) (an.out H s k A) (hf.piece o b);rw[x]at this;exact this
 have a1:Hid (∀y B2,dn y i f h p n v->y.heap[B2]?=some (.cells (qJ ((e.drop o).take b)).toArray 68 (0,0))->Calls prog 31 #[.pointer (some ⟨i,0,none⟩),.slice (some ⟨B2,0,none⟩) b b] y fun l u=>l=.returned (.int .i64 (dy ((e.drop o).take b)))/\∃L,dn u i (jt f ((e.drop o).take b)) L p n (ma (dy ((e.drop o).take b)) v)/\ab (i :: h.blk.toList) y u/\∀q,L.blk=some q->h.blk=some q∨y.heap.size<=q):=fun y B2 hr C=>by
  have:=Bp i f ((e.drop o).take b) h p n v (some ⟨B2,0,none⟩) ((e.drop o).take b).length y hr (kQ.srcF C) (fun l=>by cases l) (fun s l=>by cases l;exact⟨_,rfl⟩) (fun j _=>hf.piece o b j);rw[x]at this;exact this
 have K:Hid (i<w.heap.size/\∀q,h.blk=some q->q<w.heap.size):=by
  obtain⟨on,p2,p3,p4,hr⟩:=I.anyS;exact⟨ae hr.d,fun q m=>hr.own.lt m⟩
 generalize jt f ((e.drop o).take b)=M at *;generalize ma (dy ((e.drop o).take b)) v=J at *;generalize dy ((e.drop o).take b)=r at *;generalize (e.drop o).take b=P at *;have be:(o:Int)+(b:Int)<=(e.length:Int):=by omega
 have bk:(o:Int)+(b:Int)+(l:Int)<=(e.length:Int):=by omega
 have bg:(e.length:Int)<=1073741824:=by omega
 have HD:Hid (g≠D/\g≠i/\h.blk≠some g):=⟨al,ac,U⟩;have Z:=hI E;have bl:Hid (∀q,h.blk=some q->q<w.heap.size):=K.out.2;clear hx I hb hf E al ac U x;have N:(b=0/\l=0/\e.length=o)∨(b=0/\l=0/\¬e.length=o)∨(¬b+l=0/\¬e.length=o):=by omega
 rcases N with ⟨rfl,rfl,rfl⟩ | ⟨rfl,rfl,ap⟩ | ⟨bj,ap⟩
 all_goals
  go_enter func13,ntmps13
  go_upto_region 2 with (go_at_call 29;refine QT a0.out ?_;rintro e1 t ⟨rfl,W,k1⟩)
  go_upto_region 3 with (go_at_call 29;refine QT (ao.out t _ _ k1 (by first | exact Q0 trivial | exact Q0 rfl | exact QU rfl)) ?_;rintro e2 H ⟨rfl,C,k2⟩)
  have B:=hI (k1.trans k2);have aT:=hI (k2.get W (by simp));have a7:=hI C;have az:Hid (w.heap.size<=t.heap.size):=k1.size;clear W C k1 k2
  go_upto_region 4 with (go_at_call 30;refine QT (a5.out H _ _ B.out (by first | exact Q0 trivial | exact Q0 rfl | exact QU rfl)) ?_;rintro e3 y ⟨rfl,ag,Q⟩)
  have a3:Hid (dn y i f h p n v):=(ar.out.Va B.out).kept Q (fun q m I=>Z.out D Rm (by rw[<-Q8.1 I];exact m));have V:=hI (Q.get aT.out (by simp;omega));have af:=hI (Q.get a7.out (by have:=az.out;simp;omega));have X:=hI (Q.get (B.out.get HB.out (by simp)) (by simp;exact HD.out.1));have ba:Hid (dE y D M G F J):=ag;have T:=(show Hid _ from(B.out.mono (S':=[D]) (by simp)).trans Q);clear ag Q
  go_upto_region 5 with (go_at_call 31;refine QT (a1.out y _ a3.out af.out) ?_;rintro e4 O ⟨rfl,h4,Y,R,b4⟩)
  have aS:Hid (∃L,dn O i M L p n J/\∀q,L.blk=some q->h.blk=some q∨w.heap.size<=q):=⟨h4,Y,fun q m=>(b4 q m).elim Q0 (fun z=>QU (Q1 T.out.size z))⟩;have bd:Hid (dE O D M G F J):=ba.out.kept R (fun q m I=>Z.out q m (by rcases Ri.1 I with l | l;rw[l];exact Rm;exact Rl _ (RM _ l)));have ai:=hI (R.get V.out (by intro m;rcases Ri.1 m with l | m;have:=K.out.1;omega;have:=K.out.2 _ (aN m);omega));have S:=hI (R.get X.out (by intro m;rcases Ri.1 m with l | m;exact HD.out.2.1 l;exact HD.out.2.2 (aN m)));have a2:Hid (ab ([D]++i :: h.blk.toList) w O):=(T.out.mono (S':=[D]++i :: h.blk.toList) (fun q m _=>RM _ m)).trans (R.mono (fun q m _=>Sd _ m));have a4:=hI (nB (some ⟨g,0,none⟩) (some ⟨w.heap.size,0,none⟩) e.length e.length e O (iG.src (a:=some g) ⟨(fun l=>by cases l),fun q l=>by cases l;exact S.out⟩) (iG.src (a:=some w.heap.size) ⟨(fun l=>by cases l),fun q l=>by cases l;exact ai.out⟩) (by omega));clear Y R b4;go_wp2_with (go_at_call 26;refine QT a4.out ?_;rintro e5 w5 ⟨rfl,n5,bf⟩);go_ret;have k5:ab [] O (O.drewN n5):=(ab.refl [] _).drewN n5;obtain⟨L,a6,bc⟩:=aS.out;exact⟨rfl,bd.out.Va k5,⟨L,a6.Va k5,bc⟩,a2.out.trans (k5.mono (by simp))⟩
theorem Eu(L:dE H D z6 g o y2)(t:dn H i z6 zb b l y2)(p:∀q,q∈D :: ie g o->q∉i :: (zb.blk.toList++ie b l)) :
  Calls prog 13 #[.pointer (some ⟨D,0,none⟩),.pointer (some ⟨i,0,none⟩),.slice none 0 0,.int .i64 0,.int .i64 0,.int .i64 0] H fun r a=>Dw H D i zb g o b l (ma (dy []) y2) (jt z6 []) r a:=by
 have HX:Hid (dE H D z6 g o y2):=L;have R:Hid (dn H i z6 zb b l y2):=t;have xz:=L.anyS.lt;have h:Hid (∀(a:World) ao,kQ a ao []):=fun a ao j Z=>by cases Z
 have C:kZ []:=fun j=>⟨by show(0:Nat)<=_;omega,by show(0:Nat)<=_;omega⟩
 have HC:Hid (∀m,Calls prog 29 #[.slice none 0 0] m fun e a=>e=.returned (.slice (some ⟨m.heap.size,0,none⟩) 0 0)/\a.heap[m.heap.size]?=some (.cells (qJ []).toArray 68 (0,0))/\ab [] m a):=fun m=>jE none 0 [] m (h.out _ _) (by simp)
 have N:Hid (∀w,ab [] H w->Calls prog 30 #[.pointer (some ⟨D,0,none⟩),.slice none 0 0] w fun e a=>e=.returned (.int .i64 (dy []))/\dE a D (jt z6 []) g o (ma (dy []) y2)/\ab [D] w a):=fun w k=>CJ D z6 [] none 0 g o y2 w (L.Va k) (h.out _ _) C
 have U:Hid (∀c J,dn c i z6 zb b l y2->c.heap[J]?=some (.cells (qJ []).toArray 68 (0,0))->Calls prog 31 #[.pointer (some ⟨i,0,none⟩),.slice (some ⟨J,0,none⟩) 0 0] c fun e a=>e=.returned (.int .i64 (dy []))/\∃s,dn a i (jt z6 []) s b l (ma (dy []) y2)/\ab (i :: zb.blk.toList) c a/\∀q,s.blk=some q->zb.blk=some q∨c.heap.size<=q):=fun c J I n=>by
  exact Bp i z6 [] zb b l y2 (some ⟨J,0,none⟩) 0 c I (kQ.srcF n) (fun e=>by cases e) (fun ad e=>by cases e;exact⟨_,rfl⟩) (fun j Z=>by cases Z)
 have al:Hid (i<H.heap.size/\∀q,zb.blk=some q->q<H.heap.size):=by
  obtain⟨on,p2,p3,p4,I⟩:=t.anyS;exact⟨ae I.d,fun q f=>I.own.lt f⟩
 generalize jt z6 []=x at *;generalize ma (dy []) y2=u at *;generalize dy []=r at *;have G:=hI p;clear L t p C;go_enter func13,ntmps13
 go_upto_region 2 with (go_at_call 29;refine QT (HC.out H) ?_;rintro e1 m ⟨rfl,O,P⟩)
 go_upto_region 3 with (go_at_call 29;refine QT (HC.out m) ?_;rintro e2 w ⟨rfl,n,k2⟩)
 have y:=hI (P.trans k2);have T:=hI n;have W:Hid (H.heap.size<=m.heap.size):=P.size;clear O n P k2
 go_upto_region 4 with (go_at_call 30;refine QT (N.out w y.out) ?_;rintro e3 c ⟨rfl,A,K⟩)
 have af:Hid (dn c i z6 zb b l y2):=(R.out.Va y.out).kept K (fun q f t=>G.out D Rm (by rw[<-Q8.1 t];exact f));have E:=hI (K.get T.out (by have:=W.out;simp;omega));have V:Hid (dE c D x g o u):=A;have F:=(show Hid _ from(y.out.mono (S':=[D]) (by simp)).trans K);clear A K
 go_upto_region 5 with (go_at_call 31;refine QT (U.out c _ af.out E.out) ?_;rintro e4 v ⟨rfl,h4,B,M,b4⟩)
 have X:Hid (∃s,dn v i x s b l u/\∀q,s.blk=some q->zb.blk=some q∨H.heap.size<=q):=⟨h4,B,fun q f=>(b4 q f).elim Q0 (fun z=>QU (Q1 F.out.size z))⟩;have ag:Hid (dE v D x g o u):=V.out.kept M (fun q f t=>G.out q f (by rcases Ri.1 t with e | e;rw[e];exact Rm;exact Rl _ (RM _ e)));have Y:Hid (ab ([D]++i :: zb.blk.toList) H v):=(F.out.mono (S':=[D]++i :: zb.blk.toList) (fun q f _=>RM _ f)).trans (M.mono (fun q f _=>Sd _ f));have ai:Hid (Calls prog 26 #[.slice none 0 0,.slice (some ⟨H.heap.size,0,none⟩) 0 0] v _):=nB none (some ⟨H.heap.size,0,none⟩) 0 0 [] v (h.out _ _) (h.out _ _) (by simp);clear B M b4;go_wp2_with (go_at_call 26;refine QT ai.out ?_;rintro e5 w5 ⟨rfl,n5,an⟩);go_ret;have S:ab [] v (v.drewN n5):=(ab.refl [] _).drewN n5;obtain⟨s,Q,ac⟩:=X.out;exact⟨rfl,ag.out.Va S,⟨s,Q.Va S,ac⟩,Y.out.trans (S.mono (by simp))⟩
def OL(w:World)(x m:Nat)(h:Hd)(lo hi lo2 hi2:Nat)(fs:Fs)(e:Ending)(w':World):Prop :=
 e=.returned (.bool true)/\(∃st lo1 hi1 lo3 hi3,dE w' x fs lo1 hi1 st/\nG w.heap.size lo hi lo1 hi1/\dn w' m fs h lo3 hi3 st/\nG w.heap.size lo2 hi2 lo3 hi3/\(∀q,q∈x :: ie lo1 hi1->q∉m :: (h.blk.toList++ie lo3 hi3)))/\ab ([x]++m :: h.blk.toList) w w'
theorem AL(Y:dE H D z6 g o y2)(f:dn H i z6 zb b l y2)(ac:∀j,j<z6.length->(ak z6 j).size<=1024)(v:∀q,q∈D :: ie g o->q∉i :: (zb.blk.toList++ie b l)) :
  Calls prog 16 #[.pointer (some ⟨D,0,none⟩),.pointer (some ⟨i,0,none⟩),.string n] H fun e J=>OL H D i zb g o b l z6 e J:=by
 have Z:z6.length<=4:=by obtain⟨on,p2,p3,p4,r⟩:=f.anyS;exact r.le
 obtain⟨⟨r,s,L,c⟩,q,h,h1,h2⟩:=KN D i z6 zb g o b l y2 n H Y Z ac;have H1:Hid (Calls prog 36 #[.pointer (some ⟨D,0,none⟩),.string n] H fun e J=>e=.returned (.tuple #[.agg #[.int .i64 r,.string s,.int .i64 L,.int .i64 c],.int .i64 q])/\(∃d a,dE J D z6 d a h/\nG H.heap.size g o d a)/\ab [D] H J):=h1;have H2:Hid (∀y,dn y i z6 zb b l y2->Calls prog 37 #[.pointer (some ⟨i,0,none⟩),.string n] y fun e J=>e=.returned (.tuple #[.agg #[.int .i64 r,.string s,.int .i64 L,.int .i64 c],.int .i64 q])/\(∃d a,dn J i z6 zb d a h/\nG y.heap.size b l d a)/\ab [i] y J):=h2;have V:Hid (dn H i z6 zb b l y2):=f;have E:=hI v;have U:Hid ((∀q,q∈D :: ie g o->q<H.heap.size)/\∀q,q∈i :: (zb.blk.toList++ie b l)->q<H.heap.size):=⟨Y.lt,f.lt⟩;clear h1 h2 Y f v;go_enter func16,ntmps16
 go_upto_region 2 with (go_at_call 36;refine QT H1.out ?_;rintro e1 G ⟨rfl,⟨d,a,C,n1⟩,k1⟩)
 obtain⟨k,K⟩:∃k,Hid (G.alloc (.cells #[.int .i64 r,.string s,.int .i64 L,.int .i64 c] 87)=k):=⟨_,rfl⟩
 have I:Hid (ab [] G k):=by show ab _ _ _;rw[<-K.out];exact(ab.refl [] _).alloc _
 have X:Hid (k.heap[G.heap.size]?=some (.cells #[.int .i64 r,.string s,.int .i64 L,.int .i64 c] 87 (0,0))):=by show _=_;rw[<-K.out];exact QR _ _
 have ao:Hid (dE k D z6 d a h):=C.Va I.out;have M:Hid (nG H.heap.size g o d a):=n1;have W:Hid (a<=G.heap.size):=C.z;have T:Hid (ab [D] H k):=k1.trans (I.out.mono (by simp));have ai:Hid (dn k i z6 zb b l y2):=V.out.kept T.out (fun q m f=>E.out D Rm (by rw[<-Q8.1 f];exact m));have O:Hid (G.heap.size<=k.heap.size):=I.out.size;have B:Hid (H.heap.size<=G.heap.size):=k1.size;rw[K.out];clear C k1 n1
 go_upto_region 3 with (go_at_call 37;refine QT (H2.out k ai.out) ?_;rintro u y ⟨rfl,⟨p,t,S,n3⟩,k2⟩)
 obtain⟨w,F⟩:∃w,Hid (y.alloc (.cells #[.int .i64 r,.string s,.int .i64 L,.int .i64 c] 87)=w):=⟨_,rfl⟩
 have P:Hid (ab [] y w):=by show ab _ _ _;rw[<-F.out];exact(ab.refl [] _).alloc _
 have Q:w.heap[y.heap.size]?=some (.cells #[.int .i64 r,.string s,.int .i64 L,.int .i64 c] 87 (0,0)):=by rw[<-F.out];exact QR _ _
 have A:Hid (ab [i] k w):=k2.trans (P.out.mono (by simp))
 have N:Hid (∀q,q∈D :: ie d a->q∈D :: ie g o∨(H.heap.size<=q/\q<G.heap.size)):=fun q m=>by
  rcases Ri.1 m with e | e
  ·exact Q0 (by rw[e];exact Rm)
  ·rcases M.out.mem e with u | u
   ·exact Q0 (Rl _ u)
   ·exact QU ⟨u,QW (nf.1 e).2 W.out⟩
 have ag:Hid (dE w D z6 d a h):=ao.out.kept A.out (fun q m f=>by
  rw[Q8.1 f]at m
  rcases N.out i m with e | e
  ·exact E.out i e Rm
  ·have:=U.out.2 i Rm;omega)
 have ad:Hid (dn w i z6 zb p t h):=S.Va P.out
 have an:Hid (nG H.heap.size b l p t):=by
  rcases n3 with e | e
  ·exact Q0 e
  ·exact QU (Q1 (Q1 B.out O.out) e)
 have al:Hid (∀q,q∈D :: ie d a->q∉i :: (zb.blk.toList++ie p t)):=fun q m f=>by
  have R:∀q,q∈i :: (zb.blk.toList++ie p t)->q∈i :: (zb.blk.toList++ie b l)∨k.heap.size<=q:=fun q f=>by
   rcases Ri.1 f with e | e
   ·exact Q0 (by rw[e];exact Rm)
   ·rcases Rq.1 e with e | e
    ·exact Q0 (Rl _ (RM _ e))
    ·rcases nG.mem (z:=k.heap.size) (lo:=b) (hi:=l) n3 e with e | e
     ·exact Q0 (Rl _ (Sd _ e))
     ·exact QU e
  have z1:=B.out;have z2:=O.out
  rcases N.out q m with e | e
  ·rcases R q f with u | u
   ·exact E.out q e u
   ·have:=U.out.1 q e;omega
  ·rcases R q f with u | u
   ·have:=U.out.2 q u;omega
   ·omega
 have x:=A.out.get X.out (by have:=U.out.2 i Rm;have:=B.out;simp;omega);have af:Hid (ab ([D]++i :: zb.blk.toList) H w):=(T.out.mono (fun q m _=>RM _ m)).trans (A.out.mono (fun q m _=>Sd _ (by rw[Q8.1 m];exact Rm)));rw[F.out];clear S k2 n3;obtain⟨⟨a0,a1,a2,a3⟩,-,az⟩:=my x;obtain⟨⟨b0,b1,b2,b3⟩,-,bz⟩:=my Q;clear x Q;go_wp2;go_ret;exact⟨rfl,⟨h,d,a,p,t,ag.out,M.out,ad.out,an.out,al.out⟩,af.out⟩
theorem yZ(o:aw T I (lA x yd)){k x:Nat}(a:yd[k]?=some x):∃g,I.ao=some ⟨g,0,none⟩/\g<T.heap.size/\T.cell? ⟨g,k,none⟩=some (NX x):=by
 have h:=(Q7.1 a).1
 rcases o.ways with ⟨_,b,_⟩ | ⟨g,d,c,e,f,-⟩
 ·have b:yd.length=0:=b
  omega
 ·exact⟨g,c,ae e,o.cell c k (NX x) (by show(yd.map NX)[k]?=_;rw[Rp,a];rfl)⟩
theorem KR(h:cJ yf ya=0):ya.size<=1024:=by
 unfold cJ at h
 split at h
 ·cases h
 ·split at h
  ·cases h
  ·omega
theorem Pp(h:zu f)(n d:ByteArray):zu (fc f n d).2:=by
 unfold fc
 split
 ·exact h
 ·next c =>
  have b:=KR (Decidable.not_not.1 c)
  split
  ·intro j a
   rw[Ru]at a;have:=h j a;unfold ak at *;rw[QP]at *;rw[RT]
   split
   ·split
    ·exact b
    ·show(0:Nat)<=_;omega
   ·exact this
  ·split
   ·exact h
   ·intro j a
    rw[QZ]at a;replace a:j<f.length+1:=a;unfold ak;rw[QP]
    by_cases e:j<f.length
    ·have:=h j e
     unfold ak at this;rw[QP]at this;rw[Q6 e];exact this
    ·rw[Q4 (by omega),show j-f.length=0 by omega];exact b
theorem LE(h:zu f)(a:Fs):zu (jt f a):=by
 unfold jt
 split
 ·next e=>exact(NK e).2
 ·exact h
theorem bZ.both{i g m:Nat}(b:bZ T x N S M)(t:S.V[a]?=some (z0,z4,f))(z:N (6,a)=O4 z0 f y3 y4 zt)(D:N (7,a)=O3 z4 I f y8 y9 zt)(O:dE y0 z0 z3 y7 i y1)(J:dn y0 z4 z3 y5 g m y1)(L:nG T.heap.size y3 y4 y7 i)(K:nG T.heap.size y8 y9 g m)(P:∀q,y5.blk=some q->I.blk=some q∨T.heap.size<=q)(E:∀q,q∈z0 :: ie y7 i->q∉z4 :: (y5.blk.toList++ie g m))(k:ab ([z0]++z4 :: I.blk.toList) T y0)(u:zu z3):∃C w,bZ y0 x C w (M+1)/\rg N S C w:=by
 have s:=b.sep.put2 (6,a) (7,a) (bn (by decide)) (O4 z0 z3 y7 i y1) (O3 z4 y5 z3 g m y1) (by
  rw[z,D];refine k.mono (fun q p _=>?_)
  rcases Rq.1 p with e | e
  ·exact RM _ (by rw[Q8.1 e];exact Rm)
  ·refine Sd _ ?_
   rcases Ri.1 e with e | e
   ·rw[e];exact Rm
   ·exact Rl _ (RM _ e)) O J (fun q p=>by
  rw[z]
  rcases Ri.1 p with e | e
  ·exact Q0 (by rw[e];exact Rm)
  ·rcases L.mem e with c | c
   ·exact Q0 (Rl _ c)
   ·exact QU c) (fun q p=>by
  rw[D]
  rcases Ri.1 p with e | e
  ·exact Q0 (by rw[e];exact Rm)
  ·rcases Rq.1 e with e | e
   ·rcases P q (aN e) with c | c
    ·exact Q0 (Rl _ (RM _ (by rw[c];simp)))
    ·exact QU c
   ·rcases K.mem e with c | c
    ·exact Q0 (Rl _ (Sd _ c))
    ·exact QU c) E
 have A:∀o:Nat×Nat×Fs->Nat,o (z0,z4,z3)=o (z0,z4,f)->(S.V.set a (z0,z4,z3)).map o=S.V.map o:=fun o u=>by
  rw[Tm,u]
  apply Sp
  intro j;rw[RT]
  by_cases B:a=j
  ·subst B
   have:=(Q7.1 t).1;rw[QV rfl,Rp,t];simp[this]
  ·rw[QS B]
 refine⟨_,{ S with V:=S.V.set a (z0,z4,z3) },⟨s,?_,?_,?_,?_,?_,?_,?_,?_,?_,?_,?_⟩,?_⟩
 ·rw[aq _ _ (bn (by decide)),aq _ _ (bn (by decide)),b.w0];unfold Mc.cells;rw[Ru]
 ·rw[aq _ _ (bn (by decide)),aq _ _ (bn (by decide)),A _ rfl];exact b.x
 ·rw[aq _ _ (bn (by decide)),aq _ _ (bn (by decide)),A _ rfl];exact b.m
 ·simp only[fk];exact b.r
 ·simp only[fk];exact b.ls
 ·simp only[fk];exact b.lw
 ·intro j y n h d
  replace d:(S.V.set a (z0,z4,z3))[j]?=some (y,n,h):=d;rw[RT]at d;rw[aq _ _ (bn (by decide))]
  by_cases e:a=j
  ·subst e
   rw[QV rfl,QV (Q7.1 t).1]at d
   cases d
   rw[bJ,bJ];exact⟨⟨_,_,_,_,_,_,rfl,rfl⟩,u⟩
  ·rw[QS e]at d
   rw[aq _ _ (rB (Ne.symm e)),aq _ _ (rB (Ne.symm e)),aq _ _ (bn (by decide))];exact b.v j y n h d
 ·intro j y n h d
  simp only[fk];exact b.more.l j y n h d
 ·exact b.fit
 ·obtain⟨G,F,H⟩:=b.more.len
  exact⟨by show(S.V.set a (z0,z4,z3)).length<=_;rw[Ru];exact G,F,H⟩
 ·exact b.rng
 ·exact⟨fun j a d=>by(repeat rw[oX (by decide) d]),rfl,rfl⟩
theorem iy(h:bZ H b d w l)(g:∀W,bZ W b d w l->Calls prog 11 #[.pointer (some ⟨b,0,none⟩),.agg #[.int .i64 y6,.int .i64 y,.int .i64 k,.int .i64 L,.string v,.string n]] W fun e a=>iB b d w l true e a) :
  Calls prog 9 #[.pointer (some ⟨b,0,none⟩),.agg #[.int .i64 y6,.int .i64 y,.int .i64 k,.int .i64 L,.string v,.string n]] H fun e a=>iB b d w l true e a:=by
 obtain⟨W,c⟩:∃W,Hid (H.alloc (.cells #[.int .i64 y6,.int .i64 y,.int .i64 k,.int .i64 L,.string v,.string n] 28)=W):=⟨_,rfl⟩
 obtain⟨i,f,o,-⟩:=h.boxed y6 y k L v n W c.out;obtain⟨t,p,r,q,s,z,x⟩:=cQ f;have m:=hI (g W i);clear h i f g;go_enter func9,ntmps9
 go_upto_region 1 with fail
 rw[c.out];go_wp2_with (go_at_call 11;refine QT m.out ?_;rintro e u ⟨rfl,j⟩);go_ret;exact⟨rfl,j⟩
structure gx(W:World)(b B:Nat)(I:Nat×Nat->It)(M:Mc)(N:Nat)(k A C D:Int)(s t:ByteArray):Prop where
 m:bZ W b I M N
 o:W.heap[B]?=some (.cells #[.int .i64 k,.int .i64 A,.int .i64 C,.int .i64 D,.string s,.string t] 28 (0,0))
theorem gx.Va{k A C D:Int}(b:gx T x M N S a k A C D yf ya)(h:ab [] T y0):gx y0 x M N S a k A C D yf ya:=⟨b.m.Va h,h.get b.o (by simp)⟩
theorem JR(h:bZ H b d w l)(g:(8<=y6/\y6<=14)∨19<=y6)(r:w.V.length=0) :
  Calls prog 9 #[.pointer (some ⟨b,0,none⟩),.agg #[.int .i64 y6,.int .i64 y,.int .i64 k,.int .i64 L,.string v,.string n]] H fun e t=>iB b d w l true e t:=by
 obtain⟨W,f⟩:∃W,Hid (H.alloc (.cells #[.int .i64 y6,.int .i64 y,.int .i64 k,.int .i64 L,.string v,.string n] 28)=W):=⟨_,rfl⟩
 obtain⟨c,i,p,-⟩:=h.boxed y6 y k L v n W f.out;obtain⟨C,u,z,x,A,E,D⟩:=cQ i;have o:=hI (lp b l d w y6 y k L v n W c g);have s:Hid (bZ W b d w l):=c;clear h c i g;go_enter func9,ntmps9
 go_upto_region 1 with fail
 rw[f.out]
 go_upto_region 2 with (go_at_call 11;refine QT o.out ?_;rintro e j ⟨rfl,m⟩)
 have a:Hid (bZ j b d w l):=s.out.Va m;have q:j.cell? ⟨b,0,none⟩=some (.slice w.hx.ao w.V.length w.hx.cap):=by rw[aa a.out.blk];rfl
 rw[r]at q;have B:=ae a.out.blk;go_wp2;go_ret;exact⟨rfl,_,_,a.out.more,rg.refl _ _⟩
theorem Gf(c:∀q,q∈M :: ie z0 z4->q∉a :: (I.blk.toList++ie y3 y4))(g:∀q,q∈M :: ie z0 z4->q<x)(h:∀q,y5.blk=some q->I.blk=some q∨x<=q):∀q,q∈M :: ie z0 z4->q∉a :: (y5.blk.toList++ie y3 y4):=fun q b f=>by
 rcases Ri.1 f with e | e
 ·exact c q b (by rw[e];exact Rm)
 ·rcases Rq.1 e with e | e
  ·rcases h q (aN e) with d | d
   ·exact c q b (Rl _ (RM _ (by rw[d];simp)))
   ·have:=g q b;omega
  ·exact c q b (Rl _ (Sd _ e))
structure pa(w:World)(I:Nat×Nat->It)(M:Mc)(i x m:Nat)(fs:Fs)(h:Hd)(lo hi lo2 hi2:Nat)(st:Option Nat):Prop where
 v:M.V[i]?=some (x,m,fs)
 i6:I (6,i)=O4 x fs lo hi st
 i7:I (7,i)=O3 m h fs lo2 hi2 st
 ok:zu fs
 p:dE w x fs lo hi st
 d:dn w m fs h lo2 hi2 st
 far:∀q,q∈x :: ie lo hi->q∉m :: (h.blk.toList++ie lo2 hi2)
theorem pa.le(b:pa T N S x M a f I z0 z4 y3 y4 zt):f.length<=4:=by
 obtain⟨g,c,h,e,r⟩:=b.d.anyS;exact r.le
theorem pa.st(b:pa T N S x M a f I z0 z4 y3 y4 zt)(k:Nat)(e:zt=some k):k<f.length/\((fE f k).1==0)=true:=by
 subst e;exact b.p.s.1
theorem pa.Va(b:pa T N S x M a f I z0 z4 y3 y4 zt)(k:ab [] T y0):pa y0 N S x M a f I z0 z4 y3 y4 zt:={ b with p:=b.p.Va k,d:=b.d.Va k }
theorem bZ.ver(e:bZ T x N S M)(f:a<S.V.length) :
  ∃b m j h r f d c o g i,pa T N S a b m j h r f d c o/\(S.hx.ao=some ⟨g,0,none⟩/\g<T.heap.size/\T.cell? ⟨g,a,none⟩=some (.pointer (some ⟨b,0,none⟩)))/\(S.hm.ao=some ⟨i,0,none⟩/\i<T.heap.size/\T.cell? ⟨i,a,none⟩=some (.pointer (some ⟨m,0,none⟩))):=by
 obtain⟨⟨b,m,j⟩,l⟩:∃y,S.V[a]?=some y:=⟨S.V[a],QO f⟩
 obtain⟨⟨o,h,r,f,d,c,n,s⟩,p⟩:=e.v a b m j l;obtain⟨g,w,F,C⟩:=yZ e.ownX (k:=a) (x:=b) (by rw[Rp,l];rfl);obtain⟨i,z,E,D⟩:=yZ e.ownM (k:=a) (x:=m) (by rw[Rp,l];rfl);have u:=e.sep.all (6,a);have t:=e.sep.all (7,a);rw[n]at u;rw[s]at t;exact⟨b,m,j,h,r,f,d,c,o,g,i,⟨l,n,s,p,u,t,fun q B A=>e.sep.far (6,a) (7,a) (bn (by decide)) q (by rw[n];exact B) (by rw[s];exact A)⟩,⟨w,F,C⟩,z,E,D⟩
theorem Pt(h:bZ H b d w l)(hV:w.V.length≠0)(Y:qA y)(hN:l<=1073741824) :
  Calls prog 9 #[.pointer (some ⟨b,0,none⟩),.agg #[.int .i64 10,.int .i64 y,.int .i64 k,.int .i64 L,.string v,.string n]] H fun e I=>iB b d w l true e I:=by
 obtain⟨W,M⟩:∃W,Hid (H.alloc (.cells #[.int .i64 10,.int .i64 y,.int .i64 k,.int .i64 L,.string v,.string n] 28)=W):=⟨_,rfl⟩
 obtain⟨D,C,ac,-⟩:=h.boxed 10 y k L v n W M.out;obtain⟨A,u,P,O,R,U,B⟩:=cQ C;have HL:=hI (lp b l d w 10 y k L v n W D (by omega));have HS:Hid (gx W b H.heap.size d w l 10 y k L v n):=⟨D,C⟩;have ad:=h.len.1;have t:Hid (∀z,Calls prog 12 #[.int .i64 y,.int .i64 w.V.length] z fun e I=>e=.returned (.int .i64 (eG y w.V.length:Nat))/\I=z):=fun z=>eQ y w.V.length z Y ⟨by omega,by omega⟩
 have s:=fY y w.V.length (by omega);obtain⟨i,Hi⟩:∃i,Hid (eG y w.V.length=i):=⟨_,rfl⟩
 rw[Hi.out]at t s;have ai:((w.V.length:Int)==0)=false:=Rg.2 (by omega);have ag:(i:Int)<(w.V.length:Int):=by omega
 clear h D C;go_enter func9,ntmps9
 go_upto_region 1 with fail
 rw[M.out]
 go_upto_region 2 with (go_at_call 11;refine QT HL.out ?_;rintro e G ⟨rfl,N⟩)
 have f:Hid (gx G b H.heap.size d w l 10 y k L v n):=HS.out.Va N;clear A u P O R U B N;obtain⟨A,u,-⟩:=cQ f.out.o;have B:=ae f.out.o;have F:G.cell? ⟨b,0,none⟩=some (.slice w.hx.ao w.V.length w.hx.cap):=by rw[aa f.out.m.blk];rfl
 have T:=ae f.out.m.blk
 go_upto_region 4 with fail
 go_quiet ((go_at_call 12;exact Rc (t.out _)))
 go_upto_region 5 with fail
 obtain⟨j,r⟩:∃j,Hid (G.drewN nq=j):=⟨_,rfl⟩
 rw[r.out];have a:Hid (gx j b H.heap.size d w l 10 y k L v n):=f.out.Va (by rw[<-r.out];exact(ab.refl [] _).drewN nq);clear A u B F T;obtain⟨A,u,P,O,R,U,B⟩:=cQ a.out.o;obtain⟨x,m,fs,hd,lo,Z,K,J,st,g1,g2,c,⟨Q,z1,d1⟩,S,z2,d2⟩:=a.out.m.ver s;have F:j.cell? ⟨b,0,none⟩=some (.slice w.hx.ao w.V.length w.hx.cap):=by rw[aa a.out.m.blk];rfl
 have c1:j.cell? ⟨b,1,none⟩=some (.slice w.hm.ao w.V.length w.hm.cap):=by rw[aa a.out.m.blk];rfl
 rw[Q]at F;rw[S]at c1;have T:=ae a.out.m.blk;have E:=hI (AL x m fs hd lo Z K J st v j c.p c.d c.ok c.far);have g:=hI c;clear c Q S;go_wp2_with (go_at_call 16;refine QT E.out ?_;rintro e w3 ⟨rfl,⟨af,l1,u1,l3,u3,q1,X,q3,q4,q5⟩,q6⟩);go_ret;exact⟨rfl,a.out.m.both g.out.v g.out.i6 g.out.i7 q1 q3 X q4 (fun q hq=>Q0 hq) q5 q6 g.out.ok⟩
theorem Qj(h:bZ H b d w l)(hV:w.V.length≠0)(hA:qA y)(hN:l<=1073741824)(hs:v.size<=1073741824)(ht:n.size<=1073741824) :
  Calls prog 9 #[.pointer (some ⟨b,0,none⟩),.agg #[.int .i64 9,.int .i64 y,.int .i64 k,.int .i64 L,.string v,.string n]] H fun e w'=>iB b d w l true e w':=by
 obtain⟨W,HW⟩:∃W,Hid (H.alloc (.cells #[.int .i64 9,.int .i64 y,.int .i64 k,.int .i64 L,.string v,.string n] 28)=W):=⟨_,rfl⟩
 obtain⟨hM,hB,az,-⟩:=h.boxed 9 y k L v n W HW.out;obtain⟨O,P,o2,o3,Y,U,C⟩:=cQ hB;have HL:=hI (lp b l d w 9 y k L v n W hM (by omega));have HS:Hid (gx W b H.heap.size d w l 9 y k L v n):=⟨hM,hB⟩;have aS:=h.len.1;have Q:Hid (∀Z,Calls prog 12 #[.int .i64 y,.int .i64 w.V.length] Z fun e w'=>e=.returned (.int .i64 (eG y w.V.length:Nat))/\w'=Z):=fun Z=>eQ y w.V.length Z hA ⟨by omega,by omega⟩
 have N:=fY y w.V.length (by omega);obtain⟨i,Hi⟩:∃i,Hid (eG y w.V.length=i):=⟨_,rfl⟩
 rw[Hi.out]at Q N;have ax:((w.V.length:Int)==0)=false:=Rg.2 (by omega);have ar:(i:Int)<(w.V.length:Int):=by omega
 have ap:Hid (bZ H b d w l):=h;clear h hM hB;go_enter func9,ntmps9
 go_upto_region 1 with fail
 rw[HW.out]
 go_upto_region 2 with (go_at_call 11;refine QT HL.out ?_;rintro e w1 ⟨rfl,k1⟩)
 have g:Hid (gx w1 b H.heap.size d w l 9 y k L v n):=HS.out.Va k1;clear O P o2 o3 Y U C k1;obtain⟨O,P,-⟩:=cQ g.out.o;have C:=ae g.out.o;have X:w1.cell? ⟨b,0,none⟩=some (.slice w.hx.ao w.V.length w.hx.cap):=by rw[aa g.out.m.blk];rfl
 have bz:=ae g.out.m.blk
 go_upto_region 4 with fail
 go_quiet ((go_at_call 12;exact Rc (Q.out _)))
 go_upto_region 5 with fail
 obtain⟨B,I⟩:∃B,Hid (w1.drewN nq=B):=⟨_,rfl⟩
 rw[I.out];have c:Hid (gx B b H.heap.size d w l 9 y k L v n):=g.out.Va (by rw[<-I.out];exact(ab.refl [] _).drewN nq);clear O P C X bz;obtain⟨O,P,o2,o3,Y,U,C⟩:=cQ c.out.o;obtain⟨x,m,A,D,lo,hi,t,s,M,g1,g2,j,⟨e1,z1,d1⟩,e2,z2,d2⟩:=c.out.m.ver N;have X:B.cell? ⟨b,0,none⟩=some (.slice w.hx.ao w.V.length w.hx.cap):=by rw[aa c.out.m.blk];rfl
 have c1:B.cell? ⟨b,1,none⟩=some (.slice w.hm.ao w.V.length w.hm.cap):=by rw[aa c.out.m.blk];rfl
 rw[e1]at X;rw[e2]at c1;have bz:=ae c.out.m.blk;have K:=hI (NV x v n A lo hi M B j.p hs (by omega));have E:Hid (∀u,dn u m A D t s M->Calls prog 15 #[.pointer (some ⟨m,0,none⟩),.string v,.string n] u _):=fun u hr=>Nh m v n A D t s M u hr hs (by omega)
 have J:Hid (zu (fc A v n).2):=Pp j.ok v n;have a:=hI j;have ai:=hI c.out.o
 have ac:Hid (x≠H.heap.size):=fun e=>by
  have p:=ap.out.sep.all (6,i);rw[j.i6]at p;have:=dE.lt p x Rm;omega
 generalize ma (fc A v n).1 M=af at *;generalize fc A v n=pf at *;obtain⟨r,an⟩:=pf;simp only at K E J;clear j e1 e2
 go_upto_region 18 with (go_at_call 14;refine QT K.out ?_;rintro e u ⟨rfl,S,T⟩)
 have ag:Hid (dn u m A D t s M):=a.out.d.kept T (fun q f F=>a.out.far x Rm (by rw[<-Q8.1 F];exact f));have al:Hid (dE u x an lo hi af):=S;have G:=hI T;have B3:=T.get ai.out (by simp;exact fun e=>ac.out e.symm);clear O P o2 o3 Y U C X c1 bz z1 d1 z2 d2 S T;obtain⟨-,-,-,-,Y,U,C⟩:=cQ B3;clear B3;go_wp2_with (go_at_call 15;refine QT (E.out u ag.out) ?_;rintro e w4 ⟨rfl,h',S,q4,q5⟩);go_ret;have R:∀q,h'.blk=some q->D.blk=some q∨B.heap.size<=q:=fun q f=>(q5 q f).elim Q0 (fun z=>QU (Q1 G.out.size z))
 have ad:∀q,q∈m :: D.blk.toList->q∈m :: (D.blk.toList++ie t s):=fun q f=>by
  rcases Ri.1 f with e | e
  ·rw[e];exact Rm
  ·exact Rl _ (RM _ e)
 refine⟨rfl,c.out.m.both a.out.v a.out.i6 a.out.i7 (al.out.kept q4 (fun q f F=>a.out.far q f (ad q F))) S (Q0 ⟨rfl,rfl⟩) (Q0 ⟨rfl,rfl⟩) R (fun q f F=>?_) ((G.out.mono (fun q f _=>RM _ f)).trans (q4.mono (fun q f _=>Sd _ f))) J.out⟩;exact Gf a.out.far (a.out.p.lt) R q f F
theorem bZ.loads(h:bZ T x N S M)(A:M<=1073741824){o n e:Nat}{m:Option Nat}(V:pa T N S a z4 y3 f I y4 y8 y9 y7 zt)(s:S.L[z0]?=some (y1,m,z3))(i:o+n+e<=z3.length) :
  Calls prog 13 #[.pointer (some ⟨z4,0,none⟩),.pointer (some ⟨y3,0,none⟩),.slice (wC y1) z3.length z3.length,.int .i64 o,.int .i64 n,.int .i64 e] T fun r w=>Dw T z4 y3 I y4 y8 y9 y7 (ma (dy ((z3.drop o).take n)) zt) (jt f ((z3.drop o).take n)) r w:=by
 obtain⟨k,-,c,y⟩:=h.l z0 y1 m z3 s;have j:=h.sep.all (8,z0);rw[k]at j
 cases y1 with
 | none =>
  have g:=iG.nil j rfl;subst g;have t:o=0:=by simp at i;omega
  have u:n=0:=by simp at i;omega
  have z:e=0:=by simp at i;omega
  subst t u z;exact Eu z4 y3 f I y4 y8 y9 y7 zt T V.p V.d V.far
 | some b =>
  have v:b∉z4 :: ie y4 y8:=by have:=h.sep.far (8,z0) (6,a) (bn (by decide)) b (by rw[k];exact Q8.2 rfl);rw[V.i6]at this;exact this
  have q:b∉y3 :: (I.blk.toList++ie y9 y7):=by have:=h.sep.far (8,z0) (7,a) (bn (by decide)) b (by rw[k];exact Q8.2 rfl);rw[V.i7]at this;exact this
  exact Ck z4 y3 b o n e f z3 I y4 y8 y9 y7 zt T V.p V.d (iG.blk j b rfl) V.far (fun e=>v (by rw[e];exact Rm)) (fun e=>q (by rw[e];exact Rm)) (fun e=>q (Rl _ (RM _ (by rw[e];simp)))) i (by omega) c
theorem Qi(h:bZ H b d w l)(hV:w.V.length≠0)(hA:qA y)(hC:qA k)(hN:l<=1073741824) :
  Calls prog 9 #[.pointer (some ⟨b,0,none⟩),.agg #[.int .i64 8,.int .i64 y,.int .i64 k,.int .i64 L,.string v,.string n]] H fun e A=>iB b d w l true e A:=by
 obtain⟨W,HW⟩:∃W,Hid (H.alloc (.cells #[.int .i64 8,.int .i64 y,.int .i64 k,.int .i64 L,.string v,.string n] 28)=W):=⟨_,rfl⟩
 obtain⟨hM,hB,ap,-⟩:=h.boxed 8 y k L v n W HW.out;obtain⟨O,S,o2,o3,o4,o5,P⟩:=cQ hB;have HL:=hI (lp b l d w 8 y k L v n W hM (by omega));have HS:Hid (gx W b H.heap.size d w l 8 y k L v n):=⟨hM,hB⟩;have az:=h.len.1;have X:Hid (∀f,Calls prog 12 #[.int .i64 y,.int .i64 w.V.length] f fun e A=>e=.returned (.int .i64 (eG y w.V.length:Nat))/\A=f):=fun f=>eQ y w.V.length f hA ⟨by omega,by omega⟩
 have N:=fY y w.V.length (by omega);obtain⟨i,Hi⟩:∃i,Hid (eG y w.V.length=i):=⟨_,rfl⟩
 rw[Hi.out]at X N;have an:((w.V.length:Int)==0)=false:=Rg.2 (by omega);have ai:(i:Int)<(w.V.length:Int):=by omega
 clear h hM hB;go_enter func9,ntmps9
 go_upto_region 1 with fail
 rw[HW.out]
 go_upto_region 2 with (go_at_call 11;refine QT HL.out ?_;rintro e w1 ⟨rfl,k1⟩)
 have z:Hid (gx w1 b H.heap.size d w l 8 y k L v n):=HS.out.Va k1;clear O S o2 o3 o4 o5 P k1;obtain⟨O,S,-⟩:=cQ z.out.o;have P:=ae z.out.o;have c0:w1.cell? ⟨b,0,none⟩=some (.slice w.hx.ao w.V.length w.hx.cap):=by rw[aa z.out.m.blk];rfl
 have Z:=ae z.out.m.blk
 go_upto_region 4 with fail
 go_quiet ((go_at_call 12;exact Rc (X.out _)))
 go_upto_region 5 with fail
 obtain⟨C,K⟩:∃C,Hid (w1.drewN nq=C):=⟨_,rfl⟩
 rw[K.out];have c:Hid (gx C b H.heap.size d w l 8 y k L v n):=z.out.Va (by rw[<-K.out];exact(ab.refl [] _).drewN nq);clear O S P c0 Z;obtain⟨O,S,o2,o3,o4,o5,P⟩:=cQ c.out.o;obtain⟨x,m,fs,hd,lo,hi,J,I,st,g1,g2,E,⟨e1,z1,d1⟩,e2,z2,d2⟩:=c.out.m.ver N;have c0:C.cell? ⟨b,0,none⟩=some (.slice w.hx.ao w.V.length w.hx.cap):=by rw[aa c.out.m.blk];rfl
 have c1:C.cell? ⟨b,1,none⟩=some (.slice w.hm.ao w.V.length w.hm.cap):=by rw[aa c.out.m.blk];rfl
 rw[e1]at c0;rw[e2]at c1;have Z:=ae c.out.m.blk;have ac:=hI E;have c3:C.cell? ⟨b,3,none⟩=some (.slice w.hl.ao w.L.length w.hl.cap):=by rw[aa c.out.m.blk];rfl
 by_cases hL:w.L.length=0
 ·rw[hL]at c3
  clear E e1 e2;go_wp2;go_ret;exact⟨rfl,_,_,c.out.m.more,rg.refl _ _⟩
 ·have af:=c.out.m.len.2.2
  have U:Hid (∀f,Calls prog 12 #[.int .i64 k,.int .i64 w.L.length] f fun e A=>e=.returned (.int .i64 (eG k w.L.length:Nat))/\A=f):=fun f=>eQ k w.L.length f hC ⟨by omega,by omega⟩
  have F:=fY k w.L.length (by omega);obtain⟨B,Hk⟩:∃B,Hid (eG k w.L.length=B):=⟨_,rfl⟩
  rw[Hk.out]at U F;obtain⟨⟨la,lc,g⟩,M⟩:∃x,w.L[B]?=some x:=⟨w.L[B],QO F⟩
  obtain⟨-,-,-,al⟩:=c.out.m.l B la lc g M;obtain⟨gl,Y,gz,gc⟩:=nZ c.out.m.ownL (k:=B) (x:=(la,g)) (by rw[Rp,M];rfl);replace gc:C.cell? ⟨gl,B,none⟩=some (.slice (wC la) g.length g.length):=gc;rw[Y]at c3;have ag:(B:Int)<(w.L.length:Int):=by omega
  have ar:((w.L.length:Int)==0)=false:=Rg.2 (by omega);have ax:=hI M;obtain⟨ra,rn,re⟩:=c.out.m.rng;have R:Hid (∀f,Calls prog 12 #[.int .i64 w.a,.int .i64 ((g.length:Int)+1)] f fun e A=>e=.returned (.int .i64 (eG w.a (g.length+1):Nat))/\A=f):=fun f=>eQ w.a (g.length+1) f ra ⟨by omega,by omega⟩
  have ho:=fY w.a (g.length+1) (by omega);obtain⟨o,Ho⟩:∃o,Hid (eG w.a (g.length+1)=o):=⟨_,rfl⟩
  rw[Ho.out]at R ho
  have Q:Hid (∀f,Calls prog 12 #[.int .i64 w.n,.int .i64 ((g.length:Int)-(o:Int)+1)] f fun e A=>e=.returned (.int .i64 (eG w.n (g.length-o+1):Nat))/\A=f):=fun f=>by
   rw[show(g.length:Int)-(o:Int)+1=((g.length-o+1:Nat):Int) by omega];exact eQ w.n (g.length-o+1) f rn ⟨by omega,by omega⟩
  have hn:=fY w.n (g.length-o+1) (by omega);obtain⟨u,Hn⟩:∃u,Hid (eG w.n (g.length-o+1)=u):=⟨_,rfl⟩
  rw[Hn.out]at Q hn
  have G:Hid (∀f,Calls prog 12 #[.int .i64 w.e,.int .i64 ((g.length:Int)-(o:Int)-(u:Int)+1)] f fun e A=>e=.returned (.int .i64 (eG w.e (g.length-o-u+1):Nat))/\A=f):=fun f=>by
   rw[show(g.length:Int)-(o:Int)-(u:Int)+1=((g.length-o-u+1:Nat):Int) by omega];exact eQ w.e (g.length-o-u+1) f re ⟨by omega,by omega⟩
  have he:=fY w.e (g.length-o-u+1) (by omega);obtain⟨e,He⟩:∃e,Hid (eG w.e (g.length-o-u+1)=e):=⟨_,rfl⟩
  rw[He.out]at G he;have ad:Hid (∀t,bZ t b d w l->pa t d w i x m fs hd lo hi J I st->Calls prog 13 _ t _):=fun t a V=>a.loads hN V M (o:=o) (n:=u) (e:=e) (by omega)
  clear E e1 e2 M Y ra rn re
  go_upto_region 11 with fail
  go_quiet ((go_at_call 12;exact Rc (U.out _)))
  go_upto_region 12 with fail
  obtain⟨t,D⟩:∃t,Hid (C.drewN nq=t):=⟨_,rfl⟩
  rw[D.out];have s:Hid (gx t b H.heap.size d w l 8 y k L v n):=c.out.Va (by rw[<-D.out];exact(ab.refl [] _).drewN nq);clear O S o2 o3 o4 o5 P c0 c1 c3 Z z1 d1 z2 d2 gz gc;have c5:t.cell? ⟨b,5,none⟩=some (.int .i64 w.a):=by rw[aa s.out.m.blk];rfl
  have c6:t.cell? ⟨b,6,none⟩=some (.int .i64 w.n):=by rw[aa s.out.m.blk];rfl
  have c7:t.cell? ⟨b,7,none⟩=some (.int .i64 w.e):=by rw[aa s.out.m.blk];rfl
  have Z:=ae s.out.m.blk;have j:Hid (pa t d w i x m fs hd lo hi J I st):=ac.out.Va (by rw[<-D.out];exact(ab.refl [] _).drewN nq);have T:=hI (ad.out t s.out.m j.out)
  go_upto_region 13 with (go_at_call 12;refine QT (R.out _) ?_;rintro q w4 ⟨rfl,r⟩;rw[r];clear r)
  go_upto_region 14 with (go_at_call 12;refine QT (Q.out _) ?_;rintro q w4 ⟨rfl,r⟩;rw[r];clear r)
  go_upto_region 15 with (go_at_call 12;refine QT (G.out _) ?_;rintro q w4 ⟨rfl,r⟩;rw[r];clear r)
  go_wp2_with (go_at_call 13;refine QT T.out ?_;rintro q w4 ⟨rfl,q1,⟨h',q2,q3⟩,q4⟩);go_ret;exact⟨rfl,s.out.m.both j.out.v j.out.i6 j.out.i7 q1 q2 (Q0 ⟨rfl,rfl⟩) (Q0 ⟨rfl,rfl⟩) q3 (Gf j.out.far j.out.p.lt q3) q4 (LE j.out.ok _)⟩
end Go.Proofs.YtpddjjabfbfifaaGreat
