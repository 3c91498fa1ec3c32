import Derived.Test.YtpddjjabfbfifaaGreatG22
namespace Go.Proofs.YtpddjjabfbfifaaGreat
open Go.RowKit Tryz
set_option maxRecDepth 100000
set_option maxHeartbeats 40000000
variable{T y0:World}{x M a z0 z4 y3 y4 y8 y9 y7:Nat}{N yg:Nat×Nat->It}{S:Mc}{I y5:Hd}{f z3:Fs}{zt y1:Option Nat}{yf ya:ByteArray}{yd:List Nat}(D i:Nat)(z6:Fs)(zb:Hd)(g o b l:Nat)(y2:Option Nat)(d:Nat×Nat->It)(w:Mc)(y6 y k L:Int)(v n:ByteArray)(H:World)
theorem OZ:(prog.info? 46).map (fun i=>(i.zero,i.size,i.bytes))=some (some (.pointer none),1,8):=by kernel_rfl
theorem OX:(prog.info? 47).map (fun i=>(i.zero,i.size,i.bytes))=some (some (.pointer none),1,8):=by kernel_rfl
theorem zd(L:List Nat)(x:Nat):(⟨(lB l L).e,(lB l L).size,(lB l L).n+1,(lB l L).xs++[NY x]⟩:dN)=lB l (L++[x]):=by
 simp[lB]
theorem bZ.addV(h:bZ T x N S M)(c:yg=fk (fk N (6,S.V.length) (O6 a [] 0 0 none)) (7,S.V.length) (O4 z0 ⟨none,0⟩ [] 0 0 none))(o:nJ y0 (fk (fk (fk (fk yg (1,0) (ce I (lB 46 (S.V.map (·.1)++[a])))) (0,0) (rB x 42 (S.cells.set 0 (.slice I.ao (S.V.length+1) I.cap)))) (2,0) (ce y5 (lB 47 (S.V.map (·.2.1)++[z0])))) (0,0) (rB x 42 ((S.cells.set 0 (.slice I.ao (S.V.length+1) I.cap)).set 1 (.slice y5.ao (S.V.length+1) y5.cap))))) :
  ∃k n,bZ y0 x k n (M+1)/\rh N S k n:=by
 refine⟨_,{ S with hx:=I,hm:=y5,V:=S.V++[(a,z0,[])] },⟨o,?_,?_,?_,?_,?_,?_,?_,?_,?_,?_,?_⟩,?_⟩
 ·rw[bJ];unfold Mc.cells;rw[Q0];rfl
 ·rw[aq _ _ (bn (by decide)),aq _ _ (bn (by decide)),aq _ _ (bn (by decide)),bJ,Ry];rfl
 ·rw[aq _ _ (bn (by decide)),bJ,Ry];rfl
 ·subst c;simp only[fk];exact h.r
 ·subst c;simp only[fk];exact h.ls
 ·subst c;simp only[fk];exact h.lw
 ·intro i f m d b
  rw[aq _ _ (bn (by decide)),aq _ _ (bn (by decide)),aq _ _ (bn (by decide)),aq _ _ (bn (by decide)),aq _ _ (bn (by decide)),aq _ _ (bn (by decide)),aq _ _ (bn (by decide)),aq _ _ (bn (by decide))];replace b:(S.V++[(a,z0,[])])[i]?=some (f,m,d):=b;subst c
  by_cases e:i<S.V.length
  ·rw[Q7 e]at b
   rw[aq _ _ (bn (by decide)),aq _ _ (rC (by omega)),aq _ _ (rC (by omega)),aq _ _ (bn (by decide))];exact h.v i f m d b
  ·have p:i=S.V.length:=by
    have:=(Q8.1 b).1;rw[Q0]at this;have:i<S.V.length+1:=this;omega
   subst p;rw[Q5 (QR _),RY]at b
   cases b
   rw[aq _ _ (bn (by decide)),bJ,bJ];exact⟨⟨none,⟨none,0⟩,0,0,0,0,rfl,rfl⟩,fun j g=>by cases g⟩
 ·intro i f m d b
  subst c;simp only[fk];exact h.more.l i f m d b
 ·exact h.fit
 ·refine⟨?_,h.more.len.2.1,h.more.len.2.2⟩
  have:=h.len.1
  show(S.V++[(a,z0,[])]).length<=_
  rw[Q0];show _+1<=_;omega
 ·exact h.rng
 ·subst c;exact⟨fun j i g=>by(repeat rw[oY (by decide) g]),rfl,rfl⟩
theorem Pa(h:bZ H b d w l)(hN:l<=1073741824) :
  Calls prog 11 #[.pointer (some ⟨b,0,none⟩),.agg #[.int .i64 1,.int .i64 y,.int .i64 k,.int .i64 L,.string v,.string n]] H fun e w'=>iB b d w l true e w':=by
 obtain⟨W,HW⟩:∃W,Hid (H.alloc (.cells #[.int .i64 1,.int .i64 y,.int .i64 k,.int .i64 L,.string v,.string n] 28)=W):=⟨_,rfl⟩
 obtain⟨hM,hB,ar,-⟩:=h.boxed 1 y k L v n W HW.out;obtain⟨o0,-⟩:=cQ hB;have oz:=ae hB;obtain⟨iX,Z,F,E,M⟩:=Re OZ;obtain⟨iM,ai,Q,K,A⟩:=Re OX;have s:Hid (bZ W b d w l):=hM;have an:Hid ((lB 46 (w.V.map (·.1))).n<=4294967296):=by show(w.V.map _).length<=_;rw[Ri];have:=h.len.1;omega
 have af:Hid ((lB 47 (w.V.map (·.2.1))).n<=4294967296):=by show(w.V.map _).length<=_;rw[Ri];have:=h.len.1;omega
 have R:Hid ((lB 46 (w.V.map (·.1))).n=w.V.length):=Ri _;have S:Hid ((lB 47 (w.V.map (·.2.1))).n=w.V.length):=Ri _;clear h hM hB;go_enter func11,ntmps11
 go_upto_region 1 with fail
 rw[HW.out]
 go_upto_region 5 with (go_at_call 27;refine QU (NN W) ?_;rintro e T ⟨rfl,hX,k1⟩)
 have S1:=hI (s.out.sep.put (6,w.V.length) (O6 W.heap.size [] 0 0 none) (k1.mono (by simp)) ⟨Ro _,hX⟩ (fun q i=>QV (by rcases Rj.1 i with e | e;exact US e.symm;exact absurd (ng.1 e).2 (T0 _))))
 go_upto_region 6 with (go_at_call 28;refine QU (IX T) ?_;rintro e w2 ⟨rfl,hY,k2⟩)
 have S2:=hI (S1.out.put (7,w.V.length) (O4 T.heap.size ⟨none,0⟩ [] 0 0 none) (k2.mono (by simp)) ⟨Ro _,_,_,_,hY⟩ (fun q i=>QV (by rcases Rj.1 i with e | e;exact US e.symm;exact absurd (ng.1 (show q∈ie 0 0 from e)).2 (T0 _))));have a:=(show Hid _ from(s.out.Vb k1).Vb k2);clear hX hY k1 k2;have c0:w2.cell? ⟨b,0,none⟩=some (.slice w.hx.ao w.V.length w.hx.cap):=by rw[aa a.out.blk];rfl
 have fb:=am a.out.blk;have bz:=ae a.out.blk;have O:=a.out.ownX;have N:Hid (b∉w.hx.blk.toList):=fun i=>a.out.sep.far (0,0) (1,0) (bn (by decide)) b (by rw[a.out.w0];exact Q9.2 rfl) (by rw[a.out.x];exact i)
 obtain⟨J,z⟩:∃J,Hid (J=fk (fk d (6,w.V.length) (O6 W.heap.size [] 0 0 none)) (7,w.V.length) (O4 T.heap.size ⟨none,0⟩ [] 0 0 none)):=⟨_,rfl⟩
 rw[<-z.out]at S2;have ad:Hid (J (0,0)=rB b 42 w.cells):=by show _=_;rw[z.out,aq _ _ (bn (by decide)),aq _ _ (bn (by decide))];exact s.out.w0
 have ap:Hid (J (1,0)=ce w.hx (lB 46 (w.V.map (·.1)))):=by show _=_;rw[z.out,aq _ _ (bn (by decide)),aq _ _ (bn (by decide))];exact s.out.x
 have ac:Hid (J (2,0)=ce w.hm (lB 47 (w.V.map (·.2.1)))):=by show _=_;rw[z.out,aq _ _ (bn (by decide)),aq _ _ (bn (by decide))];exact s.out.m
 obtain⟨X,G⟩:∃X,Hid (W.heap.size=X):=⟨_,rfl⟩
 obtain⟨Y,C⟩:∃Y,Hid (T.heap.size=Y):=⟨_,rfl⟩
 rw[G.out,C.out]at z;rw[G.out,C.out]
 go_upto_region 7 with (at_builtin;refine cZ w2 rfl (.tmp 29) (.tmp 31) 31 rfl iX (.pointer none) 8 w.hx (lB 46 (w.V.map (·.1))) [NY X] underlying31 Z F E M rfl Rc (by rw[R.out];simp[Act.eval]) O an.out (by omega) (by simp[Act.eval]) rfl (by simp[NY,Value.oneCell']) ?_;intro c w5 o r;rw[zd]at o;have U:=r.kept.get a.out.blk N.out;have f5:=am U;have c5:w5.cell? ⟨b,0,none⟩=some (.slice w.hx.ao w.V.length w.hx.cap):=(by rw[aa U];rfl);have z5:=ae U)
 rw[R.out];have u:=hI (S2.out.grown ad.out (bn (by decide)) ap.out r o 0 (.slice c.ao (w.V.length+1) c.cap));obtain⟨t,ag⟩:∃t,Hid (w5.setCell ⟨b,0,none⟩ (.slice c.ao (w.V.length+1) c.cap)=t):=⟨_,rfl⟩
 rw[ag.out]at u ⊢;have f:=hI (bJ (fk J (1,0) (ce c (lB 46 (w.V.map (·.1)++[X])))) (0,0) (rB b 42 (w.cells.set 0 (.slice c.ao (w.V.length+1) c.cap))));obtain⟨J6,j⟩:∃J6,Hid (fk (fk J (1,0) (ce c (lB 46 (w.V.map (·.1)++[X])))) (0,0) (rB b 42 (w.cells.set 0 (.slice c.ao (w.V.length+1) c.cap)))=J6):=⟨_,rfl⟩
 have g:Hid (J6 (2,0)=ce w.hm (lB 47 (w.V.map (·.2.1)))):=by show _=_;rw[<-j.out,aq _ _ (bn (by decide)),aq _ _ (bn (by decide))];exact ac.out
 rw[j.out]at u f
 have D:t.heap[b]?=some (.cells (w.cells.set 0 (.slice c.ao (w.V.length+1) c.cap)).toArray 42 (0,0)):=by
  have:=u.out.all (0,0);rw[f.out]at this;exact this
 have al:=hI D
 have I:aw t w.hm (lB 47 (w.V.map (·.2.1))):=by
  have:=u.out.all (2,0);rw[g.out]at this;exact this
 have p:Hid (b∉w.hm.blk.toList):=fun i=>u.out.far (0,0) (2,0) (bn (by decide)) b (by rw[f.out];exact Q9.2 rfl) (by rw[g.out];exact i)
 clear U f5 c5 z5 o r c0 fb bz O;have c1:t.cell? ⟨b,1,none⟩=some (.slice w.hm.ao w.V.length w.hm.cap):=by rw[aa D];rfl
 have fb:=am D;have bz:=ae D;clear D;go_wp2_with (at_builtin;refine cZ t rfl (.tmp 39) (.tmp 41) 32 rfl iM (.pointer none) 8 w.hm (lB 47 (w.V.map (·.2.1))) [NY Y] underlying32 ai Q K A rfl Rc (by rw[S.out];simp[Act.eval]) I af.out (by omega) (by simp[Act.eval]) rfl (by simp[NY,Value.oneCell']) ?_;intro h7 w7 P B;rw[zd]at P;have p7:=B.kept.get al.out p.out;have f7:=am p7;have c7:w7.cell? ⟨b,1,none⟩=some (.slice w.hm.ao w.V.length w.hm.cap):=(by rw[aa p7];rfl);have z7:=ae p7;rw[S.out]);go_ret;have S7:=u.out.grown f.out (bn (by decide)) g.out B P 1 (.slice h7.ao (w.V.length+1) h7.cap);rw[<-j.out]at S7;exact⟨rfl,s.out.addV z.out S7⟩
theorem Lw:(prog.info? 33).map (fun i=>(i.zero,i.size,i.bytes))=some (some (.slice none 0 0),1,24):=by kernel_rfl
theorem qt(L:List (Option Nat×Fs))(x:Option Nat×Fs):(⟨(ig L).e,(ig L).size,(ig L).n+1,(ig L).xs++[Aj x]⟩:dN)=ig (L++[x]):=by
 simp[ig]
theorem aw.srcO(o:aw T I (cr f)):kR T I.ao f:=by
 intro k b;obtain⟨g,e,d,c,a⟩:=o.srcFi.2 k b;exact⟨g,0,e,d,by rw[SJ];exact c,by rw[SJ];exact a⟩
theorem bZ.addL{a c:Option Nat}{fs:Fs}(h:bZ T x N S M)(t:ld fs)(k:fs.length<=M+1)(d:yg=fk (fk (fk N (8,S.L.length) (uI a fs)) (4,0) (ce I (ig (S.L.map (fun l=>(l.1,l.2.2))++[(a,fs)])))) (0,0) (rB x 42 (S.cells.set 3 (.slice I.ao (S.L.length+1) I.cap))))(p:nJ y0 (fk (fk (fk yg (9,S.L.length) (uI c fs)) (5,0) (ce y5 (ig (S.L.map (fun l=>(l.2.1,l.2.2))++[(c,fs)])))) (0,0) (rB x 42 ((S.cells.set 3 (.slice I.ao (S.L.length+1) I.cap)).set 4 (.slice y5.ao (S.L.length+1) y5.cap))))) :
  ∃n o,bZ y0 x n o (M+1)/\rh N S n o:=by
 refine⟨_,{ S with hl:=I,hc:=y5,L:=S.L++[(a,c,fs)] },⟨p,?_,?_,?_,?_,?_,?_,?_,?_,?_,?_,?_⟩,?_⟩
 ·rw[bJ];unfold Mc.cells;rw[Q0];rfl
 ·subst d;simp only[fk];exact h.x
 ·subst d;simp only[fk];exact h.m
 ·subst d;simp only[fk];exact h.r
 ·subst d;rw[aq _ _ (bn (by decide)),aq _ _ (bn (by decide)),aq _ _ (bn (by decide)),aq _ _ (bn (by decide)),bJ,Ry];rfl
 ·rw[aq _ _ (bn (by decide)),bJ,Ry];rfl
 ·intro i g m fs b
  subst d;simp only[fk];exact h.v i g m fs b
 ·intro i g m f b
  rw[aq _ _ (bn (by decide)),aq _ _ (bn (by decide)),aq _ _ (bn (by decide)),aq _ _ (bn (by decide)),aq _ _ (bn (by decide))];replace b:(S.L++[(a,c,fs)])[i]?=some (g,m,f):=b;subst d;rw[aq _ _ (bn (by decide)),aq _ _ (bn (by decide))]
  by_cases e:i<S.L.length
  ·rw[Q7 e]at b
   rw[aq _ _ (rC (by omega)),aq _ _ (rC (by omega)),aq _ _ (bn (by decide)),aq _ _ (bn (by decide)),aq _ _ (bn (by decide))];exact h.more.l i g m f b
  ·have s:i=S.L.length:=by
    have:=(Q8.1 b).1;rw[Q0]at this;have:i<S.L.length+1:=this;omega
   subst s;rw[Q5 (QR _),RY]at b
   cases b
   rw[bJ,bJ];exact⟨rfl,rfl,t,k⟩
 ·exact h.fit
 ·refine⟨h.more.len.1,h.more.len.2.1,?_⟩
  have:=h.len.2.2
  show(S.L++[(a,c,fs)]).length<=_
  rw[Q0];show _+1<=_;omega
 ·exact h.rng
 ·subst d;exact⟨fun j i q=>by(repeat rw[oY (by decide) q]),rfl,rfl⟩
theorem nJ.rowAt{c:List Value}{k:Nat×Nat}{r:dN}(s:nJ T N)(a:N (0,0)=rB x M c)(d:k≠(0,0))(e:N k=ce I r):T.heap[x]?=some (.cells c.toArray M (0,0))/\aw T I r/\x∉I.blk.toList:=by
 refine⟨?_,?_,fun b=>s.far (0,0) k (Ne.symm d) x (by rw[a];exact Q9.2 rfl) (by rw[e];exact b)⟩
 ·have:=s.all (0,0);rw[a]at this;exact this
 ·have:=s.all k;rw[e]at this;exact this
theorem Pe(h:bZ H b d w l)(hN:l<=1073741824) :
  Calls prog 11 #[.pointer (some ⟨b,0,none⟩),.agg #[.int .i64 5,.int .i64 y,.int .i64 k,.int .i64 L,.string v,.string n]] H fun e w'=>iB b d w l true e w':=by
 obtain⟨W,HW⟩:∃W,Hid (H.alloc (.cells #[.int .i64 5,.int .i64 y,.int .i64 k,.int .i64 L,.string v,.string n] 28)=W):=⟨_,rfl⟩
 obtain⟨x,hB,af,-⟩:=h.boxed 5 y k L v n W HW.out;obtain⟨o0,-⟩:=cQ hB;have oz:=ae hB;obtain⟨iX,D,o,m,s⟩:=Re Lw;have HM:Hid (bZ W b d w l):=x;have Y:Hid ((ig (w.L.map (fun f=>(f.1,f.2.2)))).n<=4294967296):=by show(w.L.map _).length<=_;rw[Ri];have:=h.len.2.2;omega
 have ad:Hid ((ig (w.L.map (fun f=>(f.2.1,f.2.2)))).n<=4294967296):=by show(w.L.map _).length<=_;rw[Ri];have:=h.len.2.2;omega
 have T:Hid ((ig (w.L.map (fun f=>(f.1,f.2.2)))).n=w.L.length):=Ri _;have E:Hid ((ig (w.L.map (fun f=>(f.2.1,f.2.2)))).n=w.L.length):=Ri _;have Z:Hid (nJ W (fk d (8,w.L.length) (uI none []))):=x.sep.put _ _ (ab.refl _ _) ⟨fun _=>rfl,fun b e=>by cases e⟩ (fun q hq=>by cases hq);obtain⟨J,P⟩:∃J,Hid (J=fk d (8,w.L.length) (uI none [])):=⟨_,rfl⟩
 rw[<-P.out]at Z;have S:Hid (J (0,0)=rB b 42 w.cells):=by show _=_;rw[P.out,aq _ _ (bn (by decide))];exact x.w0
 have B:Hid (J (4,0)=ce w.hl (ig (w.L.map (fun f=>(f.1,f.2.2))))):=by show _=_;rw[P.out,aq _ _ (bn (by decide))];exact x.ls
 have X:Hid (J (5,0)=ce w.hc (ig (w.L.map (fun f=>(f.2.1,f.2.2))))):=by show _=_;rw[P.out,aq _ _ (bn (by decide))];exact x.lw
 obtain⟨I,N,r⟩:=Z.out.rowAt S.out (bn (by decide)) B.out;have Q:Hid (W.heap[b]?=some (.cells w.cells.toArray 42 (0,0))/\b∉w.hl.blk.toList):=⟨I,r⟩;have c0:W.cell? ⟨b,3,none⟩=some (.slice w.hl.ao w.L.length w.hl.cap):=by rw[aa I];rfl
 have fb:=am I;have bz:=ae I;clear h x hB I r;go_enter func11,ntmps11
 go_upto_region 1 with fail
 rw[HW.out]
 go_upto_region 22 with (at_builtin;refine cZ W rfl (.tmp 105) (.tmp 106) 34 rfl iX (.slice none 0 0) 24 w.hl (ig (w.L.map (fun f=>(f.1,f.2.2)))) [Aj (none,[])] underlying34 D o m s rfl Rc (by rw[T.out];simp[Act.eval]) N Y.out (by omega) (by simp[Act.eval]) rfl (by simp[Aj,Value.oneCell']) ?_;intro g w5 t u;rw[qt]at t;have V:=u.kept.get Q.out.1 Q.out.2;have f5:=am V;have c5:w5.cell? ⟨b,3,none⟩=some (.slice w.hl.ao w.L.length w.hl.cap):=(by rw[aa V];rfl);have z5:=ae V)
 rw[T.out];have S5:=hI (Z.out.grown S.out (bn (by decide)) B.out u t 3 (.slice g.ao (w.L.length+1) g.cap));obtain⟨z,ac⟩:∃z,Hid (w5.setCell ⟨b,3,none⟩ (.slice g.ao (w.L.length+1) g.cap)=z):=⟨_,rfl⟩
 rw[ac.out]at S5 ⊢;obtain⟨C,R⟩:∃C,C=fk (fk J (4,0) (ce g (ig (w.L.map (fun f=>(f.1,f.2.2))++[(none,[])])))) (0,0) (rB b 42 (w.cells.set 3 (.slice g.ao (w.L.length+1) g.cap))):=⟨_,rfl⟩
 have i:=hI R;clear R;rw[<-i.out]at S5;have S6:Hid (nJ z (fk C (9,w.L.length) (uI none []))):=S5.out.put _ _ (ab.refl _ _) ⟨fun _=>rfl,fun b e=>by cases e⟩ (fun q hq=>by cases hq);have G:Hid (fk C (9,w.L.length) (uI none []) (0,0)=rB b 42 (w.cells.set 3 (.slice g.ao (w.L.length+1) g.cap))):=by show _=_;rw[aq _ _ (bn (by decide)),i.out,bJ]
 have M:Hid (fk C (9,w.L.length) (uI none []) (5,0)=ce w.hc (ig (w.L.map (fun f=>(f.2.1,f.2.2))))):=by show _=_;rw[aq _ _ (bn (by decide)),i.out,aq _ _ (bn (by decide)),aq _ _ (bn (by decide))];exact X.out
 obtain⟨A,O,p⟩:=S6.out.rowAt G.out (bn (by decide)) M.out;have F:Hid (z.heap[b]?=some (.cells (w.cells.set 3 (.slice g.ao (w.L.length+1) g.cap)).toArray 42 (0,0))/\b∉w.hc.blk.toList):=⟨A,p⟩;clear V f5 c5 z5 t u c0 fb bz N;have c1:z.cell? ⟨b,4,none⟩=some (.slice w.hc.ao w.L.length w.hc.cap):=by rw[aa A];rfl
 have fb:=am A;have bz:=ae A;clear A p;go_wp2_with (at_builtin;refine cZ z rfl (.tmp 115) (.tmp 116) 34 rfl iX (.slice none 0 0) 24 w.hc (ig (w.L.map (fun f=>(f.2.1,f.2.2)))) [Aj (none,[])] underlying34 D o m s rfl Rc (by rw[E.out];simp[Act.eval]) O ad.out (by omega) (by simp[Act.eval]) rfl (by simp[Aj,Value.oneCell']) ?_;intro h7 w7 K U;rw[qt]at K;have p7:=U.kept.get F.out.1 F.out.2;have f7:=am p7;have c7:w7.cell? ⟨b,4,none⟩=some (.slice w.hc.ao w.L.length w.hc.cap):=(by rw[aa p7];rfl);have z7:=ae p7;rw[E.out]);go_ret;have S7:=S6.out.grown G.out (bn (by decide)) M.out U K 4 (.slice h7.ao (w.L.length+1) h7.cap);exact⟨rfl,HM.out.addL (a:=none) (c:=none) (fs:=[]) (fun j=>⟨by show(0:Nat)<=_;omega,by show(0:Nat)<=_;omega⟩) (Ro _) (by rw[i.out,P.out]) S7⟩
theorem Pd(h:bZ H b d w l)(hN:l<=1073741824) :
  Calls prog 11 #[.pointer (some ⟨b,0,none⟩),.agg #[.int .i64 4,.int .i64 y,.int .i64 k,.int .i64 L,.string v,.string n]] H fun e w'=>iB b d w l true e w':=by
 obtain⟨W,HW⟩:∃W,Hid (H.alloc (.cells #[.int .i64 4,.int .i64 y,.int .i64 k,.int .i64 L,.string v,.string n] 28)=W):=⟨_,rfl⟩
 obtain⟨hM,hB,a0,-⟩:=h.boxed 4 y k L v n W HW.out;obtain⟨o0,-⟩:=cQ hB;have oz:=ae hB;obtain⟨iX,N,o,m,p⟩:=Re Lw;have z:Hid (bZ W b d w l):=hM;have B:Hid (w.reg.length<=l):=h.len.2.1;have aS:Hid ((ig (w.L.map (fun f=>(f.1,f.2.2)))).n<=4294967296):=by show(w.L.map _).length<=_;rw[Ri];have:=h.len.2.2;omega
 have al:Hid ((ig (w.L.map (fun f=>(f.2.1,f.2.2)))).n<=4294967296):=by show(w.L.map _).length<=_;rw[Ri];have:=h.len.2.2;omega
 have af:Hid ((ig (w.L.map (fun f=>(f.1,f.2.2)))).n=w.L.length):=Ri _;have ag:Hid ((ig (w.L.map (fun f=>(f.2.1,f.2.2)))).n=w.L.length):=Ri _;have ax:Hid (Calls prog 29 #[.slice w.hr.ao w.reg.length w.hr.cap] W _):=jE w.hr.ao w.hr.cap w.reg W hM.ownR.srcO (by have:=B.out;omega);have c2:W.cell? ⟨b,2,none⟩=some (.slice w.hr.ao w.reg.length w.hr.cap):=by rw[aa hM.blk];rfl
 have I:=ae hM.blk;clear h hM hB;go_enter func11,ntmps11
 go_upto_region 1 with fail
 rw[HW.out]
 go_upto_region 14 with (go_at_call 29;refine QU ax.out ?_;rintro e w1 ⟨rfl,T,k1⟩)
 have S1:Hid (nJ w1 (fk d (8,w.L.length) (uI (some W.heap.size) w.reg))):=z.out.sep.put _ _ (k1.mono (by simp)) ⟨(fun e=>by cases e),(fun q e=>by cases e;exact T)⟩ (fun q hq=>QV (by rw[Q9.1 hq];exact QR _));obtain⟨K,ai⟩:∃K,Hid (W.heap.size=K):=⟨_,rfl⟩
 rw[ai.out]at S1 ⊢;obtain⟨J,G⟩:∃J,Hid (J=fk d (8,w.L.length) (uI (some K) w.reg)):=⟨_,rfl⟩
 rw[<-G.out]at S1;have R:Hid (J (0,0)=rB b 42 w.cells):=by show _=_;rw[G.out,aq _ _ (bn (by decide))];exact z.out.w0
 have aT:Hid (J (3,0)=ce w.hr (cr w.reg)):=by show _=_;rw[G.out,aq _ _ (bn (by decide))];exact z.out.r
 have M:Hid (J (4,0)=ce w.hl (ig (w.L.map (fun f=>(f.1,f.2.2))))):=by show _=_;rw[G.out,aq _ _ (bn (by decide))];exact z.out.ls
 have az:Hid (J (5,0)=ce w.hc (ig (w.L.map (fun f=>(f.2.1,f.2.2))))):=by show _=_;rw[G.out,aq _ _ (bn (by decide))];exact z.out.lw
 obtain⟨p1,Z,x⟩:=S1.out.rowAt R.out (bn (by decide)) M.out;have ac:Hid (w1.heap[b]?=some (.cells w.cells.toArray 42 (0,0))/\b∉w.hl.blk.toList):=⟨p1,x⟩;have c0:w1.cell? ⟨b,3,none⟩=some (.slice w.hl.ao w.L.length w.hl.cap):=by rw[aa p1];rfl
 have fb:=am p1;clear I;have I:=ae p1;clear p1 x c2 k1 T
 go_upto_region 16 with (at_builtin;refine cZ w1 rfl (.tmp 76) (.tmp 78) 34 rfl iX (.slice none 0 0) 24 w.hl (ig (w.L.map (fun f=>(f.1,f.2.2)))) [Aj (some K,w.reg)] underlying34 N o m p rfl Rc (by rw[af.out];simp[Act.eval]) Z aS.out (by omega) (by simp[Act.eval]) rfl (by simp[Aj,Value.oneCell']) ?_;intro g w5 C E;rw[qt]at C;have p5:=E.kept.get ac.out.1 ac.out.2;have f5:=am p5;have c5:w5.cell? ⟨b,3,none⟩=some (.slice w.hl.ao w.L.length w.hl.cap):=(by rw[aa p5];rfl);have z5:=ae p5)
 rw[af.out];have S5:=hI (S1.out.grown R.out (bn (by decide)) M.out E C 3 (.slice g.ao (w.L.length+1) g.cap));obtain⟨A,ap⟩:∃A,Hid (w5.setCell ⟨b,3,none⟩ (.slice g.ao (w.L.length+1) g.cap)=A):=⟨_,rfl⟩
 rw[ap.out]at S5 ⊢;obtain⟨D,X⟩:∃D,D=fk (fk J (4,0) (ce g (ig (w.L.map (fun f=>(f.1,f.2.2))++[(some K,w.reg)])))) (0,0) (rB b 42 (w.cells.set 3 (.slice g.ao (w.L.length+1) g.cap))):=⟨_,rfl⟩
 have i:=hI X;clear X;rw[<-i.out]at S5;have ar:Hid (D (3,0)=ce w.hr (cr w.reg)):=by show _=_;rw[i.out,aq _ _ (bn (by decide)),aq _ _ (bn (by decide))];exact aT.out
 have u:Hid (D (0,0)=rB b 42 (w.cells.set 3 (.slice g.ao (w.L.length+1) g.cap))):=by show _=_;rw[i.out,bJ]
 obtain⟨j,t,-⟩:=S5.out.rowAt u.out (bn (by decide)) ar.out;have Y:Hid (Calls prog 29 #[.slice w.hr.ao w.reg.length w.hr.cap] A _):=jE w.hr.ao w.hr.cap w.reg A t.srcO (by have:=B.out;omega);clear p5 f5 c5 z5 C E c0 fb I Z t;have c2:A.cell? ⟨b,2,none⟩=some (.slice w.hr.ao w.reg.length w.hr.cap):=by rw[aa j];rfl
 have I:=ae j;clear j
 go_upto_region 17 with (go_at_call 29;refine QU Y.out ?_;rintro e w8 ⟨rfl,Q,k2⟩)
 have S6:Hid (nJ w8 (fk D (9,w.L.length) (uI (some A.heap.size) w.reg))):=S5.out.put _ _ (k2.mono (by simp)) ⟨(fun e=>by cases e),(fun q e=>by cases e;exact Q)⟩ (fun q hq=>QV (by rw[Q9.1 hq];exact QR _));obtain⟨F,an⟩:∃F,Hid (A.heap.size=F):=⟨_,rfl⟩
 rw[an.out]at S6 ⊢;clear c2 I k2 Q;have O:Hid (fk D (9,w.L.length) (uI (some F) w.reg) (0,0)=rB b 42 (w.cells.set 3 (.slice g.ao (w.L.length+1) g.cap))):=by show _=_;rw[aq _ _ (bn (by decide))];exact u.out
 have P:Hid (fk D (9,w.L.length) (uI (some F) w.reg) (5,0)=ce w.hc (ig (w.L.map (fun f=>(f.2.1,f.2.2))))):=by show _=_;rw[aq _ _ (bn (by decide)),i.out,aq _ _ (bn (by decide)),aq _ _ (bn (by decide))];exact az.out
 obtain⟨j,V,s⟩:=S6.out.rowAt O.out (bn (by decide)) P.out;have U:Hid (w8.heap[b]?=some (.cells (w.cells.set 3 (.slice g.ao (w.L.length+1) g.cap)).toArray 42 (0,0))/\b∉w.hc.blk.toList):=⟨j,s⟩;have c1:w8.cell? ⟨b,4,none⟩=some (.slice w.hc.ao w.L.length w.hc.cap):=by rw[aa j];rfl
 have fb:=am j;have I:=ae j;clear j s;go_wp2_with (at_builtin;refine cZ w8 rfl (.tmp 92) (.tmp 94) 34 rfl iX (.slice none 0 0) 24 w.hc (ig (w.L.map (fun f=>(f.2.1,f.2.2)))) [Aj (some F,w.reg)] underlying34 N o m p rfl Rc (by rw[ag.out];simp[Act.eval]) V al.out (by omega) (by simp[Act.eval]) rfl (by simp[Aj,Value.oneCell']) ?_;intro h7 w7 ad S;rw[qt]at ad;have p7:=S.kept.get U.out.1 U.out.2;have f7:=am p7;have c7:w7.cell? ⟨b,4,none⟩=some (.slice w.hc.ao w.L.length w.hc.cap):=(by rw[aa p7];rfl);have z7:=ae p7;rw[ag.out]);go_ret;have S7:=S6.out.grown O.out (bn (by decide)) P.out S ad 4 (.slice h7.ao (w.L.length+1) h7.cap);exact⟨rfl,z.out.addL (a:=some K) (c:=some F) (fs:=w.reg) z.out.fit (by have:=B.out;omega) (by rw[i.out,G.out]) S7⟩
theorem Gv{L:List (Option Nat×Option Nat×Fs)}(c:L[x]?=some (zt,y1,f))(a:Option Nat×Option Nat×Fs->Option Nat×Fs)(d:Aj (a (zt,y1,z3))=Aj (a (zt,y1,f))):ig ((L.set x (zt,y1,z3)).map a)=ig (L.map a):=by
 unfold ig
 have e:((L.set x (zt,y1,z3)).map a).map Aj=(L.map a).map Aj:=by
  rw[Tn,Tn,d]
  apply Sq
  intro j;rw[RU]
  by_cases b:x=j
  ·subst b
   rw[QW rfl,Rq,Rq,c];have:=(Q8.1 c).1;simp[this]
  ·rw[QT b]
 rw[e,Ri,Rv,Ri]
theorem Ir(h:ld f)(i:Nat)(b:yf.size<=1073741824)(a:ya.size<=1073741824):ld (f.set i (yf,ya)):=by
 intro j;have:=h j;unfold aE ak at *;rw[QQ]at *;rw[RU]
 by_cases e:i=j
 ·subst e
  rw[QW rfl]
  split
  ·exact⟨b,a⟩
  ·exact⟨by show(0:Nat)<=_;omega,by show(0:Nat)<=_;omega⟩
 ·rw[QT e];exact this
theorem bZ.wrote(h:bZ T x N S M)(d:S.L[a]?=some (zt,y1,f))(k:z3.length=f.length)(w:ld z3)(s:nJ y0 (fk (fk N (8,a) (uI zt z3)) (9,a) (uI y1 z3))):∃n o,bZ y0 x n o (M+1)/\rh N S n o:=by
 refine⟨_,{ S with L:=S.L.set a (zt,y1,z3) },⟨s,?_,?_,?_,?_,?_,?_,?_,?_,?_,?_,?_⟩,?_⟩
 ·rw[aq _ _ (bn (by decide)),aq _ _ (bn (by decide)),h.w0];unfold Mc.cells;rw[Rv]
 ·simp only[fk];exact h.x
 ·simp only[fk];exact h.m
 ·simp only[fk];exact h.r
 ·rw[aq _ _ (bn (by decide)),aq _ _ (bn (by decide)),h.ls]
  congr 1
  exact(Gv d (fun l=>(l.1,l.2.2)) (by simp only[Aj,k])).symm
 ·rw[aq _ _ (bn (by decide)),aq _ _ (bn (by decide)),h.lw]
  congr 1
  exact(Gv d (fun l=>(l.2.1,l.2.2)) (by simp only[Aj,k])).symm
 ·intro i g m f b
  simp only[fk];exact h.v i g m f b
 ·intro i g m c b
  replace b:(S.L.set a (zt,y1,z3))[i]?=some (g,m,c):=b;rw[RU]at b;rw[aq _ _ (bn (by decide))]
  by_cases e:a=i
  ·subst e
   rw[QW rfl,QW (Q8.1 d).1]at b
   cases b
   obtain⟨-,-,-,y⟩:=h.l a zt y1 f d;rw[bJ,bJ];exact⟨rfl,rfl,w,by omega⟩
  ·rw[QT e]at b
   rw[aq _ _ (rC (Ne.symm e)),aq _ _ (rC (Ne.symm e)),aq _ _ (bn (by decide))];exact h.more.l i g m c b
 ·exact h.fit
 ·obtain⟨t,u,q⟩:=h.more.len
  exact⟨t,u,by show(S.L.set a (zt,y1,z3)).length<=_;rw[Rv];exact q⟩
 ·exact h.rng
 ·exact⟨fun j i p=>by(repeat rw[oY (by decide) p]),rfl,rfl⟩
theorem iG.wrote(h:iG T (some x) f)(a:M<f.length)(n d:ByteArray):iG ((T.setCell ⟨x,M*2,none⟩ (.string n)).setCell ⟨x,M*2+1,none⟩ (.string d)) (some x) (f.set M (n,d))/\ab [x] T ((T.setCell ⟨x,M*2,none⟩ (.string n)).setCell ⟨x,M*2+1,none⟩ (.string d)):=by
 refine⟨⟨(fun e=>by cases e),fun q e=>?_⟩,((ab.refl _ _).setCell (Q1 (by simp)) _).setCell (Q1 (by simp)) _⟩
 cases e
 rw[ah (ah (h.blk x rfl) _ _) _ _,Ru,Ru,Gk f M n d a]
theorem iG.cells(h:iG T (some x) f)(d:M<f.length):(T.cell? ⟨x,M*2,none⟩=some (.string (aE f M))/\T.cell? ⟨x,M*2+1,none⟩=some (.string (ak f M)))/\(∀j,T.frozen? ⟨x,j,none⟩=false)/\x<T.heap.size:=by
 have a:=h.blk x rfl;obtain⟨b,c⟩:=v9 f M d;exact⟨⟨by rw[aa a];simpa using b,by rw[aa a];simpa using c⟩,am a,ae a⟩
theorem n8{L:List (Option Nat×Fs)}(o:aw T I (ig L)){k:Nat}{x:Option Nat×Fs}(a:L[k]?=some x):∃g,I.ao=some ⟨g,0,none⟩/\g<T.heap.size/\T.cell? ⟨g,k,none⟩=some (Aj x):=by
 have f:=(Q8.1 a).1
 rcases o.Vm with ⟨_,c,_⟩ | ⟨g,d,b,e,h,-⟩
 ·have c:L.length=0:=c
  omega
 ·exact⟨g,b,ae e,o.cell b k (Aj x) (by show(L.map Aj)[k]?=_;rw[Rq,a];rfl)⟩
theorem Pf(h:bZ H b d w l)(hN:l<=1073741824)(hA:qB y)(hC:qB k)(hs:v.size<=1073741824)(ht:n.size<=1073741824) :
  Calls prog 11 #[.pointer (some ⟨b,0,none⟩),.agg #[.int .i64 6,.int .i64 y,.int .i64 k,.int .i64 L,.string v,.string n]] H fun e w'=>iB b d w l true e w':=by
 obtain⟨W,HW⟩:∃W,Hid (H.alloc (.cells #[.int .i64 6,.int .i64 y,.int .i64 k,.int .i64 L,.string v,.string n] 28)=W):=⟨_,rfl⟩
 obtain⟨A,hB,a6,-⟩:=h.boxed 6 y k L v n W HW.out;obtain⟨o0,o1,o2,o3,U,N,B⟩:=cQ hB;have T:=ae A.blk;have G:W.cell? ⟨b,3,none⟩=some (.slice w.hl.ao w.L.length w.hl.cap):=by rw[aa A.blk];rfl
 by_cases hL:w.L.length=0
 ·have HF:Hid (bZ W b d w l):=A
  rw[hL]at G;clear h A hB;go_enter func11,ntmps11
  go_upto_region 1 with fail
  rw[HW.out];go_wp2;go_ret;exact⟨rfl,_,_,HF.out.more,rh.refl _ _⟩
 ·have bd:=h.len.2.2
  have Q:Hid (∀E,Calls prog 12 #[.int .i64 y,.int .i64 w.L.length] E fun e w'=>e=.returned (.int .i64 (eG y w.L.length:Nat))/\w'=E):=fun E=>eQ y w.L.length E hA ⟨by omega,by omega⟩
  have an:=fY y w.L.length (by omega);obtain⟨j,Hk⟩:∃j,Hid (eG y w.L.length=j):=⟨_,rfl⟩
  rw[Hk.out]at Q an;obtain⟨⟨a,c,f⟩,hk⟩:∃x,w.L[j]?=some x:=⟨w.L[j],QP an⟩
  have HM:Hid (bZ W b d w l):=A;obtain⟨D,F,s,bg⟩:=A.l j a c f hk;obtain⟨gl,S,Z,t⟩:=n8 A.ownL (k:=j) (x:=(a,f)) (by rw[Rq,hk];rfl);replace t:W.cell? ⟨gl,j,none⟩=some (.slice (wD a) f.length f.length):=t;rw[S]at G;have be:(j:Int)<(w.L.length:Int):=by omega
  have a7:(0:Int)<(w.L.length:Int):=by omega
  have az:=hI hk;have H8:=hI D;have H9:=hI F
  by_cases r:f.length=0
  ·rw[r]at t
   clear h A hB hk D F s S;go_enter func11,ntmps11
   go_upto_region 1 with fail
   rw[HW.out]
   go_upto_region 26 with fail
   go_quiet ((go_at_call 12;exact Rd (Q.out _)))
   have HF:Hid (bZ (W.drewN nq) b d w l):=HM.out.Vb ((ab.refl [] _).drewN nq);go_wp2;go_ret;exact⟨rfl,_,_,HF.out.more,rh.refl _ _⟩
  ·have af:Hid (∀E,Calls prog 12 #[.int .i64 k,.int .i64 f.length] E fun e w'=>e=.returned (.int .i64 (eG k f.length:Nat))/\w'=E):=fun E=>eQ k f.length E hC ⟨by omega,by omega⟩
   have o:=fY k f.length (by omega);obtain⟨i,Hi⟩:∃i,Hid (eG k f.length=i):=⟨_,rfl⟩
   rw[Hi.out]at af o;have V:iG W a f:=by have:=A.sep.all (8,j);rw[D]at this;exact this
   have aS:iG W c f:=by have:=A.sep.all (9,j);rw[F]at this;exact this
   obtain⟨m,rfl⟩:∃m,a=some m:=by
    cases a with
    | none=>rw[V.nil rfl]at r;exact absurd rfl r
    | some m=>exact⟨m,rfl⟩
   obtain⟨p,rfl⟩:∃p,c=some p:=by
    cases c with
    | none=>rw[aS.nil rfl]at r;exact absurd rfl r
    | some p=>exact⟨p,rfl⟩
   have a2:=(V.cells o).2.2
   have K:m≠H.heap.size:=by
    intro e;have:=(uI (some m) f).lt H (by have:=h.sep.all (8,j);rw[(h.l j _ _ f hk).1]at this;exact this) m (Q9.2 rfl);omega
   have a1:=hI hB;have ax:Hid (ld (f.set i (v,n))):=Ir s i hs ht;replace t:W.cell? ⟨gl,j,none⟩=some (.slice (some ⟨m,0,none⟩) f.length f.length):=t;have bf:(i:Int)<(f.length:Int):=by omega
   have bj:(0:Int)<(f.length:Int):=by omega
   have a4:=hI K
   have J:Hid (∀u,ab [] W u->(u.cell? ⟨H.heap.size,2,none⟩=some (.int .i64 k)/\u.cell? ⟨H.heap.size,4,none⟩=some (.string v)/\u.cell? ⟨H.heap.size,5,none⟩=some (.string n)/\H.heap.size<u.heap.size)/\(u.cell? ⟨b,3,none⟩=some (.slice (some ⟨gl,0,none⟩) w.L.length w.hl.cap)/\b<u.heap.size)/\u.cell? ⟨gl,j,none⟩=some (.slice (some ⟨m,0,none⟩) f.length f.length)/\gl<u.heap.size):=fun u kw=>by
    have q:∀g i,g<W.heap.size->u.cell? ⟨g,i,none⟩=W.cell? ⟨g,i,none⟩:=fun g i hg=>Q6 (kw.block g hg (by simp))
    have z:=kw.size;exact⟨⟨by rw[q _ _ B];exact o2,by rw[q _ _ B];exact U,by rw[q _ _ B];exact N,by omega⟩,⟨by rw[q _ _ T];exact G,by omega⟩,by rw[q _ _ Z];exact t,by omega⟩
   clear h A hB hk D F s S V aS K a2;go_enter func11,ntmps11
   go_upto_region 1 with fail
   rw[HW.out]
   go_upto_region 26 with fail
   go_quiet ((go_at_call 12;exact Rd (Q.out _)))
   go_upto_region 28 with fail
   obtain⟨W2,ad⟩:∃W2,Hid (W.drewN nq=W2):=⟨_,rfl⟩
   rw[ad.out];have ag:Hid (ab [] W W2):=by show ab _ _ _;rw[<-ad.out];exact(ab.refl [] _).drewN nq
   clear o0 o1 o2 o3 U N B G T t Z;obtain⟨⟨o2,U,N,B⟩,⟨G,T⟩,t,Z⟩:=J.out W2 ag.out
   go_quiet ((go_at_call 12;exact Rd (af.out _)))
   go_upto_region 29 with fail
   obtain⟨I,ai⟩:∃I,Hid (W2.drewN nq=I):=⟨_,rfl⟩
   rw[ai.out];have Y:Hid (ab [] W I):=by show ab _ _ _;rw[<-ai.out];exact ag.out.drewN nq
   have ac:Hid (bZ I b d w l):=HM.out.Vb Y.out;have P:Hid (iG I (some m) f):=by show iG _ _ _;have:=ac.out.sep.all (8,j);rw[H8.out]at this;exact this
   clear o2 U N B G T t Z;obtain⟨⟨o2,U,N,B⟩,⟨G,T⟩,t,Z⟩:=J.out I Y.out;obtain⟨⟨d0,d1⟩,df,dz⟩:=P.out.cells o
   go_region
   all_goals
    obtain⟨C,R⟩:∃C,Hid (((I.setCell ⟨m,i*2,none⟩ (.string v)).setCell ⟨m,i*2+1,none⟩ (.string n)).drew=C):=⟨_,rfl⟩
    rw[R.out];have ap:Hid (ab [m] I C):=by show ab _ _ _;rw[<-R.out];exact(P.out.wrote o v n).2.drew
    have S4:Hid (nJ C (fk d (8,j) (uI (some m) (f.set i (v,n))))):=by
     show nJ _ _
     refine ac.out.sep.put _ _ (by rw[H8.out];exact ap.out) ?_ (fun q hq=>Q1 (by rw[H8.out];exact hq));rw[<-R.out];exact(uI _ _).ok [] _ _ (P.out.wrote o v n).1 (ab.refl [] _).drew (by simp)
    have aT:Hid (fk d (8,j) (uI (some m) (f.set i (v,n))) (0,0)=rB b 42 w.cells):=by show _=_;rw[aq _ _ (bn (by decide))];exact HM.out.w0
    have a3:Hid (fk d (8,j) (uI (some m) (f.set i (v,n))) (5,0)=ce w.hc (ig (w.L.map (fun a5=>(a5.2.1,a5.2.2))))):=by show _=_;rw[aq _ _ (bn (by decide))];exact HM.out.lw
    have M:Hid (fk d (8,j) (uI (some m) (f.set i (v,n))) (9,j)=uI (some p) f):=by show _=_;rw[aq _ _ (bn (by decide))];exact H9.out
    obtain⟨b4,ar,-⟩:=S4.out.rowAt aT.out (bn (by decide)) a3.out;have O:Hid (iG C (some p) f):=by show iG _ _ _;have:=S4.out.all (9,j);rw[M.out]at this;exact this
    obtain⟨gr,al,rz,rc⟩:=n8 ar (k:=j) (x:=(some p,f)) (by rw[Rq,az.out];rfl);replace rc:C.cell? ⟨gr,j,none⟩=some (.slice (some ⟨p,0,none⟩) f.length f.length):=rc;have c4:C.cell? ⟨b,4,none⟩=some (.slice (some ⟨gr,0,none⟩) w.L.length w.hc.cap):=by rw[aa b4,<-al];rfl
    clear d0 d1 df dz o2 U N B G T t Z;obtain⟨⟨d0,d1⟩,df,dz⟩:=O.out.cells o;have T:=ae b4;have B4:=ap.out.get (Y.out.get a1.out (by simp)) (by simp;exact fun e=>a4.out e.symm);obtain⟨-,-,-,-,U,N,B⟩:=cQ B4;clear b4 ar al B4
    go_upto_region 30 with fail
    go_region
    all_goals
     obtain⟨W5,X⟩:∃W5,Hid (((C.setCell ⟨p,i*2,none⟩ (.string v)).setCell ⟨p,i*2+1,none⟩ (.string n)).drew=W5):=⟨_,rfl⟩
     rw[X.out];have a0:Hid (ab [p] C W5):=by show ab _ _ _;rw[<-X.out];exact(O.out.wrote o v n).2.drew
     have S5:Hid (nJ W5 (fk (fk d (8,j) (uI (some m) (f.set i (v,n)))) (9,j) (uI (some p) (f.set i (v,n))))):=by
      show nJ _ _
      refine S4.out.put _ _ (by rw[M.out];exact a0.out) ?_ (fun q hq=>Q1 (by rw[M.out];exact hq));rw[<-X.out];exact(uI _ _).ok [] _ _ (O.out.wrote o v n).1 (ab.refl [] _).drew (by simp)
     go_wp2;go_ret;exact⟨rfl,HM.out.wrote az.out Rv ax.out S5.out⟩
theorem Cn{o k:Nat}(h:T.heap[x]?=some (.cells (qK f).toArray 68 (0,0)))(c:o+k<f.length):T.cell? ⟨x,o*2+k*2,none⟩=some (.string (aE f (o+k)))/\T.cell? ⟨x,o*2+k*2+1,none⟩=some (.string (ak f (o+k))):=by
 obtain⟨a,b⟩:=v9 f (o+k) c;rw[Uc]at a b;exact⟨by rw[aa h];simpa using a,by rw[aa h];simpa using b⟩
theorem iG.piece(h:T.heap[x]?=some (.cells (qK f).toArray 68 (0,0)))(o n:Nat)(l:o+n<=f.length):kR T (some ⟨x,o*2,none⟩) ((f.drop o).take n):=by
 intro k b;rw[RQ,RT]at b;have e:∀j,j<n->((f.drop o).take n)[j]?=f[o+j]?:=fun j c=>by rw[Tj,QW c,SV]
 obtain⟨g,a⟩:=Cn h (o:=o) (k:=k) (by omega);have i:aE ((f.drop o).take n) k=aE f (o+k):=by unfold aE;rw[QQ,QQ,e k (by omega)]
 have d:ak ((f.drop o).take n) k=ak f (o+k):=by unfold ak;rw[QQ,QQ,e k (by omega)]
 exact⟨x,o*2,rfl,ae h,by rw[i];exact g,by rw[d];exact a⟩
theorem iG.src{a:Option Nat}(h:iG T a f):kR T (wD a) f:=by
 cases a with
 | none=>rw[h.nil rfl];intro k c;cases c
 | some b =>
  have:=iG.piece (h.blk b rfl) 0 f.length (by omega);rw[U0,RK,UT]at this;exact this
theorem ld.piece(h:ld f)(o n:Nat):ld ((f.drop o).take n):=by
 intro j;have a:=h (o+j);unfold aE ak at *;rw[QQ]at *;rw[Tj]
 split
 ·rw[SV];exact a
 ·exact⟨by show(0:Nat)<=_;omega,by show(0:Nat)<=_;omega⟩
def Dy(w:World)(x m:Nat)(h:Hd)(lo hi lo2 hi2:Nat)(st:Option Nat)(fs:Fs)(e:Ending)(w':World):Prop :=
 e=.returned (.bool true)/\dE w' x fs lo hi st/\(∃h',dn w' m fs h' lo2 hi2 st/\∀q,h'.blk=some q->h.blk=some q∨w.heap.size<=q)/\ab ([x]++m :: h.blk.toList) w w'
theorem DC.kept(a:DC T x I f)(k:ab yd T y0)(h:x∉yd)(g:∀q,I.blk=some q->q∉yd):DC y0 x I f:=by
 obtain⟨d,c,e,b,a⟩:=a;exact⟨d,c,e,b,a.keptS k h g⟩
theorem kR.srcF(h:T.heap[x]?=some (.cells (qK f).toArray 68 (0,0))):mV T (some ⟨x,0,none⟩) f.length f:=by
 refine⟨QR _,fun k c=>?_⟩;obtain⟨b,a⟩:=Cn h (o:=0) (k:=k) (by omega);rw[UT,SJ]at b a;exact⟨x,rfl,ae h,by simpa using b,by simpa using a⟩
theorem Cm(f e:Fs)(h:Hd)(H F p m:Nat)(v:Option Nat)(w:World)(hx:dE w D f H F v)(J:dn w i f h p m v)(Y:w.heap[g]?=some (.cells (qK e).toArray 68 (0,0)))(E:∀q,q∈D :: ie H F->q∉i :: (h.blk.toList++ie p m))(ai:g≠D)(ac:g≠i)(Z:h.blk≠some g)(hl:o+b+l<=e.length)(hN:e.length<=1073741824)(hf:ld e) :
  Calls prog 13 #[.pointer (some ⟨D,0,none⟩),.pointer (some ⟨i,0,none⟩),.slice (some ⟨g,0,none⟩) e.length e.length,.int .i64 o,.int .i64 b,.int .i64 l] w fun r u=>Dy w D i h H F p m (mb (dy ((e.drop o).take b)) v) (jt f ((e.drop o).take b)) r u:=by
 have HX:Hid (dE w D f H F v):=hx;have ba:Hid (dn w i f h p m v):=J;have HB:=hI Y;have xz:=hx.anyS.lt;have bz:=ae Y;have HF:=(show Hid (ld e) from hf);have x:((e.drop o).take b).length=b:=by rw[RQ,RT];omega
 have ar:Hid (∀u,ab [] w u->kR u (some ⟨g,0,none⟩) e):=fun u k=>(iG.src (a:=some g) ⟨(fun l=>by cases l),fun q l=>by cases l;exact k.get Y (by simp)⟩)
 have S:Hid (∀t s,ab [] w t->(b=0∨s=⟨g,o*2,none⟩)->kR t (some s) ((e.drop o).take b)):=fun t s k y=>by
  rcases y with l | l
  ·rw[l];intro j hj;rw[Tq]at hj;cases hj
  ·rw[l];exact iG.piece (k.get Y (by simp)) o b (by omega)
 have aT:Hid (Calls prog 29 #[.slice (some ⟨g,0,none⟩) e.length e.length] w _):=jE _ e.length e w (ar.out w (ab.refl _ _)) hN
 have ax:Hid (∀t c s,ab [] w t->(b=0∨s=⟨g,o*2,none⟩)->Calls prog 29 #[.slice (some s) b c] t fun l u=>l=.returned (.slice (some ⟨t.heap.size,0,none⟩) b b)/\u.heap[t.heap.size]?=some (.cells (qK ((e.drop o).take b)).toArray 68 (0,0))/\ab [] t u):=fun t c s k y=>by
  have:=jE (some s) c ((e.drop o).take b) t (S.out t s k y) (by rw[x];omega);rw[x]at this;exact this
 have a2:Hid (∀G c s,ab [] w G->(b=0∨s=⟨g,o*2,none⟩)->Calls prog 30 #[.pointer (some ⟨D,0,none⟩),.slice (some s) b c] G fun l u=>l=.returned (.int .i64 (dy ((e.drop o).take b)))/\dE u D (jt f ((e.drop o).take b)) H F (mb (dy ((e.drop o).take b)) v)/\ab [D] G u):=fun G c s k y=>by
  have:=CL D f ((e.drop o).take b) (some s) c H F v G (hx.Vb k) (S.out G s k y) (hf.piece o b);rw[x]at this;exact this
 have bd:Hid (∀A B2,dn A i f h p m v->A.heap[B2]?=some (.cells (qK ((e.drop o).take b)).toArray 68 (0,0))->Calls prog 31 #[.pointer (some ⟨i,0,none⟩),.slice (some ⟨B2,0,none⟩) b b] A fun l u=>l=.returned (.int .i64 (dy ((e.drop o).take b)))/\∃L,dn u i (jt f ((e.drop o).take b)) L p m (mb (dy ((e.drop o).take b)) v)/\ab (i :: h.blk.toList) A u/\∀q,L.blk=some q->h.blk=some q∨A.heap.size<=q):=fun A B2 hr C=>by
  have:=Bs i f ((e.drop o).take b) h p m v (some ⟨B2,0,none⟩) ((e.drop o).take b).length A hr (kR.srcF C) (fun l=>by cases l) (fun s l=>by cases l;exact⟨_,rfl⟩) (fun j _=>hf.piece o b j);rw[x]at this;exact this
 have N:Hid (i<w.heap.size/\∀q,h.blk=some q->q<w.heap.size):=by
  obtain⟨on,p2,p3,p4,hr⟩:=J.anyS;exact⟨ae hr.d,fun q n=>hr.own.lt n⟩
 generalize jt f ((e.drop o).take b)=M at *;generalize mb (dy ((e.drop o).take b)) v=I at *;generalize dy ((e.drop o).take b)=r at *;generalize (e.drop o).take b=P at *;have be:(o:Int)+(b:Int)<=(e.length:Int):=by omega
 have bl:(o:Int)+(b:Int)+(l:Int)<=(e.length:Int):=by omega
 have bf:(e.length:Int)<=1073741824:=by omega
 have HD:Hid (g≠D/\g≠i/\h.blk≠some g):=⟨ai,ac,Z⟩;have an:=hI E;have bk:Hid (∀q,h.blk=some q->q<w.heap.size):=N.out.2;clear hx J Y hf E ai ac Z x;have K:(b=0/\l=0/\e.length=o)∨(b=0/\l=0/\¬e.length=o)∨(¬b+l=0/\¬e.length=o):=by omega
 rcases K with ⟨rfl,rfl,rfl⟩ | ⟨rfl,rfl,a6⟩ | ⟨bg,a6⟩
 all_goals
  go_enter func13,ntmps13
  go_upto_region 2 with (go_at_call 29;refine QU aT.out ?_;rintro e1 t ⟨rfl,U,k1⟩)
  go_upto_region 3 with (go_at_call 29;refine QU (ax.out t _ _ k1 (by first | exact Q1 trivial | exact Q1 rfl | exact QV rfl)) ?_;rintro e2 G ⟨rfl,C,k2⟩)
  have B:=hI (k1.trans k2);have ao:=hI (k2.get U (by simp));have aS:=hI C;have a0:Hid (w.heap.size<=t.heap.size):=k1.size;clear U C k1 k2
  go_upto_region 4 with (go_at_call 30;refine QU (a2.out G _ _ B.out (by first | exact Q1 trivial | exact Q1 rfl | exact QV rfl)) ?_;rintro e3 A ⟨rfl,X,O⟩)
  have a3:Hid (dn A i f h p m v):=(ba.out.Vb B.out).kept O (fun q n J=>an.out D Rn (by rw[<-Q9.1 J];exact n));have af:=hI (O.get ao.out (by simp;omega));have ag:=hI (O.get aS.out (by have:=a0.out;simp;omega));have W:=hI (O.get (B.out.get HB.out (by simp)) (by simp;exact HD.out.1));have ap:Hid (dE A D M H F I):=X;have al:=(show Hid _ from(B.out.mono (S':=[D]) (by simp)).trans O);clear X O
  go_upto_region 5 with (go_at_call 31;refine QU (bd.out A _ a3.out ag.out) ?_;rintro e4 Q ⟨rfl,h4,R,k4,b4⟩)
  have a5:Hid (∃L,dn Q i M L p m I/\∀q,L.blk=some q->h.blk=some q∨w.heap.size<=q):=⟨h4,R,fun q n=>(b4 q n).elim Q1 (fun z=>QV (Q3 al.out.size z))⟩;have a4:Hid (dE Q D M H F I):=ap.out.kept k4 (fun q n J=>an.out q n (by rcases Rj.1 J with l | l;rw[l];exact Rn;exact Rm _ (RN _ l)));have T:=hI (k4.get af.out (by intro n;rcases Rj.1 n with l | n;have:=N.out.1;omega;have:=N.out.2 _ (aN n);omega));have V:=hI (k4.get W.out (by intro n;rcases Rj.1 n with l | n;exact HD.out.2.1 l;exact HD.out.2.2 (aN n)));have az:Hid (ab ([D]++i :: h.blk.toList) w Q):=(al.out.mono (S':=[D]++i :: h.blk.toList) (fun q n _=>RN _ n)).trans (k4.mono (fun q n _=>Se _ n));have a7:=hI (nC (some ⟨g,0,none⟩) (some ⟨w.heap.size,0,none⟩) e.length e.length e Q (iG.src (a:=some g) ⟨(fun l=>by cases l),fun q l=>by cases l;exact V.out⟩) (iG.src (a:=some w.heap.size) ⟨(fun l=>by cases l),fun q l=>by cases l;exact T.out⟩) (by omega));clear R k4 b4;go_wp2_with (go_at_call 26;refine QU a7.out ?_;rintro e5 w5 ⟨rfl,n5,bj⟩);go_ret;have k5:ab [] Q (Q.drewN n5):=(ab.refl [] _).drewN n5;obtain⟨L,bc,a1⟩:=a5.out;exact⟨rfl,a4.out.Vb k5,⟨L,bc.Vb k5,a1⟩,az.out.trans (k5.mono (by simp))⟩
theorem Ey(I:dE H D z6 g o y2)(y:dn H i z6 zb b l y2)(p:∀q,q∈D :: ie g o->q∉i :: (zb.blk.toList++ie b l)) :
  Calls prog 13 #[.pointer (some ⟨D,0,none⟩),.pointer (some ⟨i,0,none⟩),.slice none 0 0,.int .i64 0,.int .i64 0,.int .i64 0] H fun r a=>Dy H D i zb g o b l (mb (dy []) y2) (jt z6 []) r a:=by
 have HX:Hid (dE H D z6 g o y2):=I;have X:Hid (dn H i z6 zb b l y2):=y;have xz:=I.anyS.lt;have n:Hid (∀(a:World) ao,kR a ao []):=fun a ao j N=>by cases N
 have F:ld []:=fun j=>⟨by show(0:Nat)<=_;omega,by show(0:Nat)<=_;omega⟩
 have HC:Hid (∀m,Calls prog 29 #[.slice none 0 0] m fun e a=>e=.returned (.slice (some ⟨m.heap.size,0,none⟩) 0 0)/\a.heap[m.heap.size]?=some (.cells (qK []).toArray 68 (0,0))/\ab [] m a):=fun m=>jE none 0 [] m (n.out _ _) (by simp)
 have M:Hid (∀u,ab [] H u->Calls prog 30 #[.pointer (some ⟨D,0,none⟩),.slice none 0 0] u fun e a=>e=.returned (.int .i64 (dy []))/\dE a D (jt z6 []) g o (mb (dy []) y2)/\ab [D] u a):=fun u k=>CL D z6 [] none 0 g o y2 u (I.Vb k) (n.out _ _) F
 have ag:Hid (∀c L,dn c i z6 zb b l y2->c.heap[L]?=some (.cells (qK []).toArray 68 (0,0))->Calls prog 31 #[.pointer (some ⟨i,0,none⟩),.slice (some ⟨L,0,none⟩) 0 0] c fun e a=>e=.returned (.int .i64 (dy []))/\∃t,dn a i (jt z6 []) t b l (mb (dy []) y2)/\ab (i :: zb.blk.toList) c a/\∀q,t.blk=some q->zb.blk=some q∨c.heap.size<=q):=fun c L K h=>by
  exact Bs i z6 [] zb b l y2 (some ⟨L,0,none⟩) 0 c K (kR.srcF h) (fun e=>by cases e) (fun ad e=>by cases e;exact⟨_,rfl⟩) (fun j N=>by cases N)
 have ai:Hid (i<H.heap.size/\∀q,zb.blk=some q->q<H.heap.size):=by
  obtain⟨on,p2,p3,p4,K⟩:=y.anyS;exact⟨ae K.d,fun q f=>K.own.lt f⟩
 generalize jt z6 []=s at *;generalize mb (dy []) y2=v at *;generalize dy []=r at *;have G:=hI p;clear I y p F;go_enter func13,ntmps13
 go_upto_region 2 with (go_at_call 29;refine QU (HC.out H) ?_;rintro e1 m ⟨rfl,O,T⟩)
 go_upto_region 3 with (go_at_call 29;refine QU (HC.out m) ?_;rintro e2 u ⟨rfl,h,k2⟩)
 have w:=hI (T.trans k2);have Y:=hI h;have ac:Hid (H.heap.size<=m.heap.size):=T.size;clear O h T k2
 go_upto_region 4 with (go_at_call 30;refine QU (M.out u w.out) ?_;rintro e3 c ⟨rfl,C,J⟩)
 have P:Hid (dn c i z6 zb b l y2):=(X.out.Vb w.out).kept J (fun q f y=>G.out D Rn (by rw[<-Q9.1 y];exact f));have B:=hI (J.get Y.out (by have:=ac.out;simp;omega));have af:Hid (dE c D s g o v):=C;have E:=(show Hid _ from(w.out.mono (S':=[D]) (by simp)).trans J);clear C J
 go_upto_region 5 with (go_at_call 31;refine QU (ag.out c _ P.out B.out) ?_;rintro e4 x ⟨rfl,h4,A,k4,b4⟩)
 have S:Hid (∃t,dn x i s t b l v/\∀q,t.blk=some q->zb.blk=some q∨H.heap.size<=q):=⟨h4,A,fun q f=>(b4 q f).elim Q1 (fun z=>QV (Q3 E.out.size z))⟩;have Q:Hid (dE x D s g o v):=af.out.kept k4 (fun q f y=>G.out q f (by rcases Rj.1 y with e | e;rw[e];exact Rn;exact Rm _ (RN _ e)));have W:Hid (ab ([D]++i :: zb.blk.toList) H x):=(E.out.mono (S':=[D]++i :: zb.blk.toList) (fun q f _=>RN _ f)).trans (k4.mono (fun q f _=>Se _ f));have U:Hid (Calls prog 26 #[.slice none 0 0,.slice (some ⟨H.heap.size,0,none⟩) 0 0] x _):=nC none (some ⟨H.heap.size,0,none⟩) 0 0 [] x (n.out _ _) (n.out _ _) (by simp);clear A k4 b4;go_wp2_with (go_at_call 26;refine QU U.out ?_;rintro e5 w5 ⟨rfl,n5,al⟩);go_ret;have V:ab [] x (x.drewN n5):=(ab.refl [] _).drewN n5;obtain⟨t,Z,R⟩:=S.out;exact⟨rfl,Q.out.Vb V,⟨t,Z.Vb V,R⟩,W.out.trans (V.mono (by simp))⟩
def ON(w:World)(x m:Nat)(h:Hd)(lo hi lo2 hi2:Nat)(fs:Fs)(e:Ending)(w':World):Prop :=
 e=.returned (.bool true)/\(∃st lo1 hi1 lo3 hi3,dE w' x fs lo1 hi1 st/\nH w.heap.size lo hi lo1 hi1/\dn w' m fs h lo3 hi3 st/\nH w.heap.size lo2 hi2 lo3 hi3/\(∀q,q∈x :: ie lo1 hi1->q∉m :: (h.blk.toList++ie lo3 hi3)))/\ab ([x]++m :: h.blk.toList) w w'
theorem AN(Z:dE H D z6 g o y2)(h:dn H i z6 zb b l y2)(an:∀j,j<z6.length->(ak z6 j).size<=1024)(v:∀q,q∈D :: ie g o->q∉i :: (zb.blk.toList++ie b l)) :
  Calls prog 16 #[.pointer (some ⟨D,0,none⟩),.pointer (some ⟨i,0,none⟩),.string n] H fun e I=>ON H D i zb g o b l z6 e I:=by
 have ag:z6.length<=4:=by obtain⟨on,p2,p3,p4,r⟩:=h.anyS;exact r.le
 obtain⟨⟨r,s,L,c⟩,q,f,h1,h2⟩:=KP D i z6 zb g o b l y2 n H Z ag an;have H1:Hid (Calls prog 36 #[.pointer (some ⟨D,0,none⟩),.string n] H fun e I=>e=.returned (.tuple #[.agg #[.int .i64 r,.string s,.int .i64 L,.int .i64 c],.int .i64 q])/\(∃d a,dE I D z6 d a f/\nH H.heap.size g o d a)/\ab [D] H I):=h1;have H2:Hid (∀w,dn w i z6 zb b l y2->Calls prog 37 #[.pointer (some ⟨i,0,none⟩),.string n] w fun e I=>e=.returned (.tuple #[.agg #[.int .i64 r,.string s,.int .i64 L,.int .i64 c],.int .i64 q])/\(∃d a,dn I i z6 zb d a f/\nH w.heap.size b l d a)/\ab [i] w I):=h2;have al:Hid (dn H i z6 zb b l y2):=h;have C:=hI v;have U:Hid ((∀q,q∈D :: ie g o->q<H.heap.size)/\∀q,q∈i :: (zb.blk.toList++ie b l)->q<H.heap.size):=⟨Z.lt,h.lt⟩;clear h1 h2 Z h v;go_enter func16,ntmps16
 go_upto_region 2 with (go_at_call 36;refine QU H1.out ?_;rintro e1 F ⟨rfl,⟨d,a,G,n1⟩,k1⟩)
 obtain⟨k,E⟩:∃k,Hid (F.alloc (.cells #[.int .i64 r,.string s,.int .i64 L,.int .i64 c] 87)=k):=⟨_,rfl⟩
 have K:Hid (ab [] F k):=by show ab _ _ _;rw[<-E.out];exact(ab.refl [] _).alloc _
 have X:Hid (k.heap[F.heap.size]?=some (.cells #[.int .i64 r,.string s,.int .i64 L,.int .i64 c] 87 (0,0))):=by show _=_;rw[<-E.out];exact QS _ _
 have Y:Hid (dE k D z6 d a f):=G.Vb K.out;have P:Hid (nH H.heap.size g o d a):=n1;have af:Hid (a<=F.heap.size):=G.z;have O:Hid (ab [D] H k):=k1.trans (K.out.mono (by simp));have ai:Hid (dn k i z6 zb b l y2):=al.out.kept O.out (fun q m h=>C.out D Rn (by rw[<-Q9.1 h];exact m));have Q:Hid (F.heap.size<=k.heap.size):=K.out.size;have J:Hid (H.heap.size<=F.heap.size):=k1.size;rw[E.out];clear G k1 n1
 go_upto_region 3 with (go_at_call 37;refine QU (H2.out k ai.out) ?_;rintro u w ⟨rfl,⟨p,t,R,n3⟩,k2⟩)
 obtain⟨y,A⟩:∃y,Hid (w.alloc (.cells #[.int .i64 r,.string s,.int .i64 L,.int .i64 c] 87)=y):=⟨_,rfl⟩
 have M:Hid (ab [] w y):=by show ab _ _ _;rw[<-A.out];exact(ab.refl [] _).alloc _
 have S:y.heap[w.heap.size]?=some (.cells #[.int .i64 r,.string s,.int .i64 L,.int .i64 c] 87 (0,0)):=by rw[<-A.out];exact QS _ _
 have B:Hid (ab [i] k y):=k2.trans (M.out.mono (by simp))
 have N:Hid (∀q,q∈D :: ie d a->q∈D :: ie g o∨(H.heap.size<=q/\q<F.heap.size)):=fun q m=>by
  rcases Rj.1 m with e | e
  ·exact Q1 (by rw[e];exact Rn)
  ·rcases P.out.mem e with u | u
   ·exact Q1 (Rm _ u)
   ·exact QV ⟨u,QX (ng.1 e).2 af.out⟩
 have V:Hid (dE y D z6 d a f):=Y.out.kept B.out (fun q m h=>by
  rw[Q9.1 h]at m
  rcases N.out i m with e | e
  ·exact C.out i e Rn
  ·have:=U.out.2 i Rn;omega)
 have ao:Hid (dn y i z6 zb p t f):=R.Vb M.out
 have W:Hid (nH H.heap.size b l p t):=by
  rcases n3 with e | e
  ·exact Q1 e
  ·exact QV (Q3 (Q3 J.out Q.out) e)
 have ac:Hid (∀q,q∈D :: ie d a->q∉i :: (zb.blk.toList++ie p t)):=fun q m h=>by
  have T:∀q,q∈i :: (zb.blk.toList++ie p t)->q∈i :: (zb.blk.toList++ie b l)∨k.heap.size<=q:=fun q h=>by
   rcases Rj.1 h with e | e
   ·exact Q1 (by rw[e];exact Rn)
   ·rcases Rr.1 e with e | e
    ·exact Q1 (Rm _ (RN _ e))
    ·rcases nH.mem (z:=k.heap.size) (lo:=b) (hi:=l) n3 e with e | e
     ·exact Q1 (Rm _ (Se _ e))
     ·exact QV e
  have z1:=J.out;have z2:=Q.out
  rcases N.out q m with e | e
  ·rcases T q h with u | u
   ·exact C.out q e u
   ·have:=U.out.1 q e;omega
  ·rcases T q h with u | u
   ·have:=U.out.2 q u;omega
   ·omega
 have x:=B.out.get X.out (by have:=U.out.2 i Rn;have:=J.out;simp;omega);have ad:Hid (ab ([D]++i :: zb.blk.toList) H y):=(O.out.mono (fun q m _=>RN _ m)).trans (B.out.mono (fun q m _=>Se _ (by rw[Q9.1 m];exact Rn)));rw[A.out];clear R k2 n3;obtain⟨⟨a0,a1,a2,a3⟩,-,az⟩:=mz x;obtain⟨⟨b0,b1,b2,b3⟩,-,bz⟩:=mz S;clear x S;go_wp2;go_ret;exact⟨rfl,⟨f,d,a,p,t,V.out,P.out,ao.out,W.out,ac.out⟩,ad.out⟩
theorem zc(o:aw T I (lB x yd)){k x:Nat}(a:yd[k]?=some x):∃g,I.ao=some ⟨g,0,none⟩/\g<T.heap.size/\T.cell? ⟨g,k,none⟩=some (NY x):=by
 have f:=(Q8.1 a).1
 rcases o.Vm with ⟨_,c,_⟩ | ⟨g,d,b,e,h,-⟩
 ·have c:yd.length=0:=c
  omega
 ·exact⟨g,b,ae e,o.cell b k (NY x) (by show(yd.map NY)[k]?=_;rw[Rq,a];rfl)⟩
theorem KU(h:cJ yf ya=0):ya.size<=1024:=by
 unfold cJ at h
 split at h
 ·cases h
 ·split at h
  ·cases h
  ·omega
theorem Pq(h:zw f)(n d:ByteArray):zw (fc f n d).2:=by
 unfold fc
 split
 ·exact h
 ·next c =>
  have b:=KU (Decidable.not_not.1 c)
  split
  ·intro j a
   rw[Rv]at a;have:=h j a;unfold ak at *;rw[QQ]at *;rw[RU]
   split
   ·split
    ·exact b
    ·show(0:Nat)<=_;omega
   ·exact this
  ·split
   ·exact h
   ·intro j a
    rw[Q0]at a;replace a:j<f.length+1:=a;unfold ak;rw[QQ]
    by_cases e:j<f.length
    ·have:=h j e
     unfold ak at this;rw[QQ]at this;rw[Q7 e];exact this
    ·rw[Q5 (by omega),show j-f.length=0 by omega];exact b
theorem LF(h:zw f)(a:Fs):zw (jt f a):=by
 unfold jt
 split
 ·next e=>exact(NL e).2
 ·exact h
theorem bZ.both{i m g:Nat}(b:bZ T x N S M)(u:S.V[a]?=some (z0,z4,f))(z:N (6,a)=O6 z0 f y3 y4 zt)(B:N (7,a)=O4 z4 I f y8 y9 zt)(F:dE y0 z0 z3 y7 i y1)(K:dn y0 z4 z3 y5 m g y1)(P:nH T.heap.size y3 y4 y7 i)(E:nH T.heap.size y8 y9 m g)(L:∀q,y5.blk=some q->I.blk=some q∨T.heap.size<=q)(H:∀q,q∈z0 :: ie y7 i->q∉z4 :: (y5.blk.toList++ie m g))(k:ab ([z0]++z4 :: I.blk.toList) T y0)(t:zw z3):∃w C,bZ y0 x w C (M+1)/\rh N S w C:=by
 have s:=b.sep.put2 (6,a) (7,a) (bn (by decide)) (O6 z0 z3 y7 i y1) (O4 z4 y5 z3 m g y1) (by
  rw[z,B];refine k.mono (fun q p _=>?_)
  rcases Rr.1 p with e | e
  ·exact RN _ (by rw[Q9.1 e];exact Rn)
  ·refine Se _ ?_
   rcases Rj.1 e with e | e
   ·rw[e];exact Rn
   ·exact Rm _ (RN _ e)) F K (fun q p=>by
  rw[z]
  rcases Rj.1 p with e | e
  ·exact Q1 (by rw[e];exact Rn)
  ·rcases P.mem e with d | d
   ·exact Q1 (Rm _ d)
   ·exact QV d) (fun q p=>by
  rw[B]
  rcases Rj.1 p with e | e
  ·exact Q1 (by rw[e];exact Rn)
  ·rcases Rr.1 e with e | e
   ·rcases L q (aN e) with d | d
    ·exact Q1 (Rm _ (RN _ (by rw[d];simp)))
    ·exact QV d
   ·rcases E.mem e with d | d
    ·exact Q1 (Rm _ (Se _ d))
    ·exact QV d) H
 have A:∀o:Nat×Nat×Fs->Nat,o (z0,z4,z3)=o (z0,z4,f)->(S.V.set a (z0,z4,z3)).map o=S.V.map o:=fun o t=>by
  rw[Tn,t]
  apply Sq
  intro j;rw[RU]
  by_cases D:a=j
  ·subst D
   have:=(Q8.1 u).1;rw[QW rfl,Rq,u];simp[this]
  ·rw[QT D]
 refine⟨_,{ S with V:=S.V.set a (z0,z4,z3) },⟨s,?_,?_,?_,?_,?_,?_,?_,?_,?_,?_,?_⟩,?_⟩
 ·rw[aq _ _ (bn (by decide)),aq _ _ (bn (by decide)),b.w0];unfold Mc.cells;rw[Rv]
 ·rw[aq _ _ (bn (by decide)),aq _ _ (bn (by decide)),A _ rfl];exact b.x
 ·rw[aq _ _ (bn (by decide)),aq _ _ (bn (by decide)),A _ rfl];exact b.m
 ·simp only[fk];exact b.r
 ·simp only[fk];exact b.ls
 ·simp only[fk];exact b.lw
 ·intro j y n h c
  replace c:(S.V.set a (z0,z4,z3))[j]?=some (y,n,h):=c;rw[RU]at c;rw[aq _ _ (bn (by decide))]
  by_cases e:a=j
  ·subst e
   rw[QW rfl,QW (Q8.1 u).1]at c
   cases c
   rw[bJ,bJ];exact⟨⟨_,_,_,_,_,_,rfl,rfl⟩,t⟩
  ·rw[QT e]at c
   rw[aq _ _ (rC (Ne.symm e)),aq _ _ (rC (Ne.symm e)),aq _ _ (bn (by decide))];exact b.v j y n h c
 ·intro j y n h c
  simp only[fk];exact b.more.l j y n h c
 ·exact b.fit
 ·obtain⟨G,J,O⟩:=b.more.len
  exact⟨by show(S.V.set a (z0,z4,z3)).length<=_;rw[Rv];exact G,J,O⟩
 ·exact b.rng
 ·exact⟨fun j a c=>by(repeat rw[oY (by decide) c]),rfl,rfl⟩
theorem iy(h:bZ H b d w l)(c:∀W,bZ W b d w l->Calls prog 11 #[.pointer (some ⟨b,0,none⟩),.agg #[.int .i64 y6,.int .i64 y,.int .i64 k,.int .i64 L,.string v,.string n]] W fun e a=>iB b d w l true e a) :
  Calls prog 9 #[.pointer (some ⟨b,0,none⟩),.agg #[.int .i64 y6,.int .i64 y,.int .i64 k,.int .i64 L,.string v,.string n]] H fun e a=>iB b d w l true e a:=by
 obtain⟨W,i⟩:∃W,Hid (H.alloc (.cells #[.int .i64 y6,.int .i64 y,.int .i64 k,.int .i64 L,.string v,.string n] 28)=W):=⟨_,rfl⟩
 obtain⟨f,g,j,-⟩:=h.boxed y6 y k L v n W i.out;obtain⟨p,x,s,z,t,r,q⟩:=cQ g;have o:=hI (c W f);clear h f g c;go_enter func9,ntmps9
 go_upto_region 1 with fail
 rw[i.out];go_wp2_with (go_at_call 11;refine QU o.out ?_;rintro e u ⟨rfl,m⟩);go_ret;exact⟨rfl,m⟩
structure gx(W:World)(b B:Nat)(I:Nat×Nat->It)(M:Mc)(N:Nat)(k A C D:Int)(s t:ByteArray):Prop where
 m:bZ W b I M N
 o:W.heap[B]?=some (.cells #[.int .i64 k,.int .i64 A,.int .i64 C,.int .i64 D,.string s,.string t] 28 (0,0))
theorem gx.Vb{k A C D:Int}(b:gx T x M N S a k A C D yf ya)(h:ab [] T y0):gx y0 x M N S a k A C D yf ya:=⟨b.m.Vb h,h.get b.o (by simp)⟩
theorem JT(h:bZ H b d w l)(f:(8<=y6/\y6<=14)∨19<=y6)(o:w.V.length=0) :
  Calls prog 9 #[.pointer (some ⟨b,0,none⟩),.agg #[.int .i64 y6,.int .i64 y,.int .i64 k,.int .i64 L,.string v,.string n]] H fun e r=>iB b d w l true e r:=by
 obtain⟨W,j⟩:∃W,Hid (H.alloc (.cells #[.int .i64 y6,.int .i64 y,.int .i64 k,.int .i64 L,.string v,.string n] 28)=W):=⟨_,rfl⟩
 obtain⟨c,g,m,-⟩:=h.boxed y6 y k L v n W j.out;obtain⟨x,D,B,E,C,A,z⟩:=cQ g;have t:=hI (lq b l d w y6 y k L v n W c f);have p:Hid (bZ W b d w l):=c;clear h c g f;go_enter func9,ntmps9
 go_upto_region 1 with fail
 rw[j.out]
 go_upto_region 2 with (go_at_call 11;refine QU t.out ?_;rintro e i ⟨rfl,q⟩)
 have a:Hid (bZ i b d w l):=p.out.Vb q;have s:i.cell? ⟨b,0,none⟩=some (.slice w.hx.ao w.V.length w.hx.cap):=by rw[aa a.out.blk];rfl
 rw[o]at s;have u:=ae a.out.blk;go_wp2;go_ret;exact⟨rfl,_,_,a.out.more,rh.refl _ _⟩
theorem Gh(c:∀q,q∈M :: ie z0 z4->q∉a :: (I.blk.toList++ie y3 y4))(f:∀q,q∈M :: ie z0 z4->q<x)(h:∀q,y5.blk=some q->I.blk=some q∨x<=q):∀q,q∈M :: ie z0 z4->q∉a :: (y5.blk.toList++ie y3 y4):=fun q b g=>by
 rcases Rj.1 g with e | e
 ·exact c q b (by rw[e];exact Rn)
 ·rcases Rr.1 e with e | e
  ·rcases h q (aN e) with d | d
   ·exact c q b (Rm _ (RN _ (by rw[d];simp)))
   ·have:=f q b;omega
  ·exact c q b (Rm _ (Se _ e))
structure pb(w:World)(I:Nat×Nat->It)(M:Mc)(i x m:Nat)(fs:Fs)(h:Hd)(lo hi lo2 hi2:Nat)(st:Option Nat):Prop where
 v:M.V[i]?=some (x,m,fs)
 i6:I (6,i)=O6 x fs lo hi st
 i7:I (7,i)=O4 m h fs lo2 hi2 st
 ok:zw fs
 p:dE w x fs lo hi st
 d:dn w m fs h lo2 hi2 st
 far:∀q,q∈x :: ie lo hi->q∉m :: (h.blk.toList++ie lo2 hi2)
theorem pb.le(b:pb T N S x M a f I z0 z4 y3 y4 zt):f.length<=4:=by
 obtain⟨g,e,h,c,r⟩:=b.d.anyS;exact r.le
theorem pb.st(b:pb T N S x M a f I z0 z4 y3 y4 zt)(k:Nat)(e:zt=some k):k<f.length/\((fE f k).1==0)=true:=by
 subst e;exact b.p.s.1
theorem pb.Vb(b:pb T N S x M a f I z0 z4 y3 y4 zt)(k:ab [] T y0):pb y0 N S x M a f I z0 z4 y3 y4 zt:={ b with p:=b.p.Vb k,d:=b.d.Vb k }
theorem bZ.ver(e:bZ T x N S M)(i:a<S.V.length) :
  ∃b m l h s i c d o g f,pb T N S a b m l h s i c d o/\(S.hx.ao=some ⟨g,0,none⟩/\g<T.heap.size/\T.cell? ⟨g,a,none⟩=some (.pointer (some ⟨b,0,none⟩)))/\(S.hm.ao=some ⟨f,0,none⟩/\f<T.heap.size/\T.cell? ⟨f,a,none⟩=some (.pointer (some ⟨m,0,none⟩))):=by
 obtain⟨⟨b,m,l⟩,j⟩:∃y,S.V[a]?=some y:=⟨S.V[a],QP i⟩
 obtain⟨⟨o,h,s,i,c,d,n,r⟩,p⟩:=e.v a b m l j;obtain⟨g,B,C,z⟩:=zc e.ownX (k:=a) (x:=b) (by rw[Rq,j];rfl);obtain⟨f,w,A,D⟩:=zc e.ownM (k:=a) (x:=m) (by rw[Rq,j];rfl);have u:=e.sep.all (6,a);have t:=e.sep.all (7,a);rw[n]at u;rw[r]at t;exact⟨b,m,l,h,s,i,c,d,o,g,f,⟨j,n,r,p,u,t,fun q F E=>e.sep.far (6,a) (7,a) (bn (by decide)) q (by rw[n];exact F) (by rw[r];exact E)⟩,⟨B,C,z⟩,w,A,D⟩
theorem Pu(h:bZ H b d w l)(hV:w.V.length≠0)(hA:qB y)(hN:l<=1073741824) :
  Calls prog 9 #[.pointer (some ⟨b,0,none⟩),.agg #[.int .i64 10,.int .i64 y,.int .i64 k,.int .i64 L,.string v,.string n]] H fun e D=>iB b d w l true e D:=by
 obtain⟨W,U⟩:∃W,Hid (H.alloc (.cells #[.int .i64 10,.int .i64 y,.int .i64 k,.int .i64 L,.string v,.string n] 28)=W):=⟨_,rfl⟩
 obtain⟨E,K,Y,-⟩:=h.boxed 10 y k L v n W U.out;obtain⟨u,B,S,R,T,O,z⟩:=cQ K;have HL:=hI (lq b l d w 10 y k L v n W E (by omega));have X:Hid (gx W b H.heap.size d w l 10 y k L v n):=⟨E,K⟩;have af:=h.len.1;have r:Hid (∀A,Calls prog 12 #[.int .i64 y,.int .i64 w.V.length] A fun e D=>e=.returned (.int .i64 (eG y w.V.length:Nat))/\D=A):=fun A=>eQ y w.V.length A hA ⟨by omega,by omega⟩
 have t:=fY y w.V.length (by omega);obtain⟨i,Hi⟩:∃i,Hid (eG y w.V.length=i):=⟨_,rfl⟩
 rw[Hi.out]at r t;have ac:((w.V.length:Int)==0)=false:=Rh.2 (by omega);have ag:(i:Int)<(w.V.length:Int):=by omega
 clear h E K;go_enter func9,ntmps9
 go_upto_region 1 with fail
 rw[U.out]
 go_upto_region 2 with (go_at_call 11;refine QU HL.out ?_;rintro e J ⟨rfl,Q⟩)
 have f:Hid (gx J b H.heap.size d w l 10 y k L v n):=X.out.Vb Q;clear u B S R T O z Q;obtain⟨u,B,-⟩:=cQ f.out.o;have z:=ae f.out.o;have G:J.cell? ⟨b,0,none⟩=some (.slice w.hx.ao w.V.length w.hx.cap):=by rw[aa f.out.m.blk];rfl
 have M:=ae f.out.m.blk
 go_upto_region 4 with fail
 go_quiet ((go_at_call 12;exact Rd (r.out _)))
 go_upto_region 5 with fail
 obtain⟨j,s⟩:∃j,Hid (J.drewN nq=j):=⟨_,rfl⟩
 rw[s.out];have c:Hid (gx j b H.heap.size d w l 10 y k L v n):=f.out.Vb (by rw[<-s.out];exact(ab.refl [] _).drewN nq);clear u B z G M;obtain⟨u,B,S,R,T,O,z⟩:=cQ c.out.o;obtain⟨x,m,fs,hd,lo,hi,I,C,st,g1,g2,a,⟨P,z1,d1⟩,N,z2,d2⟩:=c.out.m.ver t;have G:j.cell? ⟨b,0,none⟩=some (.slice w.hx.ao w.V.length w.hx.cap):=by rw[aa c.out.m.blk];rfl
 have c1:j.cell? ⟨b,1,none⟩=some (.slice w.hm.ao w.V.length w.hm.cap):=by rw[aa c.out.m.blk];rfl
 rw[P]at G;rw[N]at c1;have M:=ae c.out.m.blk;have F:=hI (AN x m fs hd lo hi I C st v j a.p a.d a.ok a.far);have g:=hI a;clear a P N;go_wp2_with (go_at_call 16;refine QU F.out ?_;rintro e w3 ⟨rfl,⟨ad,l1,u1,l3,u3,q1,q2,Z,q4,q5⟩,q6⟩);go_ret;exact⟨rfl,c.out.m.both g.out.v g.out.i6 g.out.i7 q1 Z q2 q4 (fun q hq=>Q1 hq) q5 q6 g.out.ok⟩
theorem Qk(h:bZ H b d w l)(hV:w.V.length≠0)(hA:qB y)(hN:l<=1073741824)(hs:v.size<=1073741824)(ht:n.size<=1073741824) :
  Calls prog 9 #[.pointer (some ⟨b,0,none⟩),.agg #[.int .i64 9,.int .i64 y,.int .i64 k,.int .i64 L,.string v,.string n]] H fun e w'=>iB b d w l true e w':=by
 obtain⟨W,HW⟩:∃W,Hid (H.alloc (.cells #[.int .i64 9,.int .i64 y,.int .i64 k,.int .i64 L,.string v,.string n] 28)=W):=⟨_,rfl⟩
 obtain⟨hM,hB,ar,-⟩:=h.boxed 9 y k L v n W HW.out;obtain⟨I,Q,o2,o3,X,T,C⟩:=cQ hB;have HL:=hI (lq b l d w 9 y k L v n W hM (by omega));have HS:Hid (gx W b H.heap.size d w l 9 y k L v n):=⟨hM,hB⟩;have ax:=h.len.1;have E:Hid (∀Y,Calls prog 12 #[.int .i64 y,.int .i64 w.V.length] Y fun e w'=>e=.returned (.int .i64 (eG y w.V.length:Nat))/\w'=Y):=fun Y=>eQ y w.V.length Y hA ⟨by omega,by omega⟩
 have N:=fY y w.V.length (by omega);obtain⟨i,Hi⟩:∃i,Hid (eG y w.V.length=i):=⟨_,rfl⟩
 rw[Hi.out]at E N;have aS:((w.V.length:Int)==0)=false:=Rh.2 (by omega);have az:(i:Int)<(w.V.length:Int):=by omega
 have ai:Hid (bZ H b d w l):=h;clear h hM hB;go_enter func9,ntmps9
 go_upto_region 1 with fail
 rw[HW.out]
 go_upto_region 2 with (go_at_call 11;refine QU HL.out ?_;rintro e w1 ⟨rfl,k1⟩)
 have j:Hid (gx w1 b H.heap.size d w l 9 y k L v n):=HS.out.Vb k1;clear I Q o2 o3 X T C k1;obtain⟨I,Q,-⟩:=cQ j.out.o;have C:=ae j.out.o;have U:w1.cell? ⟨b,0,none⟩=some (.slice w.hx.ao w.V.length w.hx.cap):=by rw[aa j.out.m.blk];rfl
 have bz:=ae j.out.m.blk
 go_upto_region 4 with fail
 go_quiet ((go_at_call 12;exact Rd (E.out _)))
 go_upto_region 5 with fail
 obtain⟨A,M⟩:∃A,Hid (w1.drewN nq=A):=⟨_,rfl⟩
 rw[M.out];have c:Hid (gx A b H.heap.size d w l 9 y k L v n):=j.out.Vb (by rw[<-M.out];exact(ab.refl [] _).drewN nq);clear I Q C U bz;obtain⟨I,Q,o2,o3,X,T,C⟩:=cQ c.out.o;obtain⟨x,m,B,D,lo,hi,t,s,J,g1,g2,g,⟨e1,z1,d1⟩,e2,z2,d2⟩:=c.out.m.ver N;have U:A.cell? ⟨b,0,none⟩=some (.slice w.hx.ao w.V.length w.hx.cap):=by rw[aa c.out.m.blk];rfl
 have c1:A.cell? ⟨b,1,none⟩=some (.slice w.hm.ao w.V.length w.hm.cap):=by rw[aa c.out.m.blk];rfl
 rw[e1]at U;rw[e2]at c1;have bz:=ae c.out.m.blk;have K:=hI (NW x v n B lo hi J A g.p hs (by omega));have R:Hid (∀u,dn u m B D t s J->Calls prog 15 #[.pointer (some ⟨m,0,none⟩),.string v,.string n] u _):=fun u hr=>Ni m v n B D t s J u hr hs (by omega)
 have G:Hid (zw (fc B v n).2):=Pq g.ok v n;have a:=hI g;have al:=hI c.out.o
 have af:Hid (x≠H.heap.size):=fun e=>by
  have p:=ai.out.sep.all (6,i);rw[g.i6]at p;have:=dE.lt p x Rn;omega
 generalize mb (fc B v n).1 J=ac at *;generalize fc B v n=pf at *;obtain⟨r,ap⟩:=pf;simp only at K R G;clear g e1 e2
 go_upto_region 18 with (go_at_call 14;refine QU K.out ?_;rintro e u ⟨rfl,Z,S⟩)
 have an:Hid (dn u m B D t s J):=a.out.d.kept S (fun q f F=>a.out.far x Rn (by rw[<-Q9.1 F];exact f));have ag:Hid (dE u x ap lo hi ac):=Z;have P:=hI S;have B3:=S.get al.out (by simp;exact fun e=>af.out e.symm);clear I Q o2 o3 X T C U c1 bz z1 d1 z2 d2 Z S;obtain⟨-,-,-,-,X,T,C⟩:=cQ B3;clear B3;go_wp2_with (go_at_call 15;refine QU (R.out u an.out) ?_;rintro e w4 ⟨rfl,h',Z,q4,q5⟩);go_ret;have O:∀q,h'.blk=some q->D.blk=some q∨A.heap.size<=q:=fun q f=>(q5 q f).elim Q1 (fun z=>QV (Q3 P.out.size z))
 have ad:∀q,q∈m :: D.blk.toList->q∈m :: (D.blk.toList++ie t s):=fun q f=>by
  rcases Rj.1 f with e | e
  ·rw[e];exact Rn
  ·exact Rm _ (RN _ e)
 refine⟨rfl,c.out.m.both a.out.v a.out.i6 a.out.i7 (ag.out.kept q4 (fun q f F=>a.out.far q f (ad q F))) Z (Q1 ⟨rfl,rfl⟩) (Q1 ⟨rfl,rfl⟩) O (fun q f F=>?_) ((P.out.mono (fun q f _=>RN _ f)).trans (q4.mono (fun q f _=>Se _ f))) G.out⟩;exact Gh a.out.far (a.out.p.lt) O q f F
theorem bZ.loads(i:bZ T x N S M)(A:M<=1073741824){o n e:Nat}{m:Option Nat}(V:pb T N S a z4 y3 f I y4 y8 y9 y7 zt)(s:S.L[z0]?=some (y1,m,z3))(h:o+n+e<=z3.length) :
  Calls prog 13 #[.pointer (some ⟨z4,0,none⟩),.pointer (some ⟨y3,0,none⟩),.slice (wD y1) z3.length z3.length,.int .i64 o,.int .i64 n,.int .i64 e] T fun r y=>Dy T z4 y3 I y4 y8 y9 y7 (mb (dy ((z3.drop o).take n)) zt) (jt f ((z3.drop o).take n)) r y:=by
 obtain⟨k,-,g,u⟩:=i.l z0 y1 m z3 s;have j:=i.sep.all (8,z0);rw[k]at j
 cases y1 with
 | none =>
  have c:=iG.nil j rfl;subst c;have w:o=0:=by simp at h;omega
  have t:n=0:=by simp at h;omega
  have z:e=0:=by simp at h;omega
  subst w t z;exact Ey z4 y3 f I y4 y8 y9 y7 zt T V.p V.d V.far
 | some b =>
  have v:b∉z4 :: ie y4 y8:=by have:=i.sep.far (8,z0) (6,a) (bn (by decide)) b (by rw[k];exact Q9.2 rfl);rw[V.i6]at this;exact this
  have q:b∉y3 :: (I.blk.toList++ie y9 y7):=by have:=i.sep.far (8,z0) (7,a) (bn (by decide)) b (by rw[k];exact Q9.2 rfl);rw[V.i7]at this;exact this
  exact Cm z4 y3 b o n e f z3 I y4 y8 y9 y7 zt T V.p V.d (iG.blk j b rfl) V.far (fun e=>v (by rw[e];exact Rn)) (fun e=>q (by rw[e];exact Rn)) (fun e=>q (Rm _ (RN _ (by rw[e];simp)))) h (by omega) g
theorem Qj(h:bZ H b d w l)(hV:w.V.length≠0)(hA:qB y)(hC:qB k)(hN:l<=1073741824) :
  Calls prog 9 #[.pointer (some ⟨b,0,none⟩),.agg #[.int .i64 8,.int .i64 y,.int .i64 k,.int .i64 L,.string v,.string n]] H fun e z=>iB b d w l true e z:=by
 obtain⟨W,HW⟩:∃W,Hid (H.alloc (.cells #[.int .i64 8,.int .i64 y,.int .i64 k,.int .i64 L,.string v,.string n] 28)=W):=⟨_,rfl⟩
 obtain⟨hM,hB,af,-⟩:=h.boxed 8 y k L v n W HW.out;obtain⟨Q,Y,o2,o3,o4,o5,G⟩:=cQ hB;have HL:=hI (lq b l d w 8 y k L v n W hM (by omega));have HS:Hid (gx W b H.heap.size d w l 8 y k L v n):=⟨hM,hB⟩;have al:=h.len.1;have I:Hid (∀f,Calls prog 12 #[.int .i64 y,.int .i64 w.V.length] f fun e z=>e=.returned (.int .i64 (eG y w.V.length:Nat))/\z=f):=fun f=>eQ y w.V.length f hA ⟨by omega,by omega⟩
 have T:=fY y w.V.length (by omega);obtain⟨i,Hi⟩:∃i,Hid (eG y w.V.length=i):=⟨_,rfl⟩
 rw[Hi.out]at I T;have ap:((w.V.length:Int)==0)=false:=Rh.2 (by omega);have an:(i:Int)<(w.V.length:Int):=by omega
 clear h hM hB;go_enter func9,ntmps9
 go_upto_region 1 with fail
 rw[HW.out]
 go_upto_region 2 with (go_at_call 11;refine QU HL.out ?_;rintro e w1 ⟨rfl,k1⟩)
 have A:Hid (gx w1 b H.heap.size d w l 8 y k L v n):=HS.out.Vb k1;clear Q Y o2 o3 o4 o5 G k1;obtain⟨Q,Y,-⟩:=cQ A.out.o;have G:=ae A.out.o;have Z:w1.cell? ⟨b,0,none⟩=some (.slice w.hx.ao w.V.length w.hx.cap):=by rw[aa A.out.m.blk];rfl
 have bz:=ae A.out.m.blk
 go_upto_region 4 with fail
 go_quiet ((go_at_call 12;exact Rd (I.out _)))
 go_upto_region 5 with fail
 obtain⟨C,S⟩:∃C,Hid (w1.drewN nq=C):=⟨_,rfl⟩
 rw[S.out];have c:Hid (gx C b H.heap.size d w l 8 y k L v n):=A.out.Vb (by rw[<-S.out];exact(ab.refl [] _).drewN nq);clear Q Y G Z bz;obtain⟨Q,Y,o2,o3,o4,o5,G⟩:=cQ c.out.o;obtain⟨x,m,fs,hd,lo,hi,X,O,st,g1,g2,D,⟨e1,z1,d1⟩,e2,z2,d2⟩:=c.out.m.ver T;have Z:C.cell? ⟨b,0,none⟩=some (.slice w.hx.ao w.V.length w.hx.cap):=by rw[aa c.out.m.blk];rfl
 have c1:C.cell? ⟨b,1,none⟩=some (.slice w.hm.ao w.V.length w.hm.cap):=by rw[aa c.out.m.blk];rfl
 rw[e1]at Z;rw[e2]at c1;have bz:=ae c.out.m.blk;have ad:=hI D;have c3:C.cell? ⟨b,3,none⟩=some (.slice w.hl.ao w.L.length w.hl.cap):=by rw[aa c.out.m.blk];rfl
 by_cases hL:w.L.length=0
 ·rw[hL]at c3
  clear D e1 e2;go_wp2;go_ret;exact⟨rfl,_,_,c.out.m.more,rh.refl _ _⟩
 ·have ar:=c.out.m.len.2.2
  have R:Hid (∀f,Calls prog 12 #[.int .i64 k,.int .i64 w.L.length] f fun e z=>e=.returned (.int .i64 (eG k w.L.length:Nat))/\z=f):=fun f=>eQ k w.L.length f hC ⟨by omega,by omega⟩
  have M:=fY k w.L.length (by omega);obtain⟨B,Hk⟩:∃B,Hid (eG k w.L.length=B):=⟨_,rfl⟩
  rw[Hk.out]at R M;obtain⟨⟨la,lc,j⟩,J⟩:∃x,w.L[B]?=some x:=⟨w.L[B],QP M⟩
  obtain⟨-,-,-,az⟩:=c.out.m.l B la lc j J;obtain⟨gl,K,gz,gc⟩:=n8 c.out.m.ownL (k:=B) (x:=(la,j)) (by rw[Rq,J];rfl);replace gc:C.cell? ⟨gl,B,none⟩=some (.slice (wD la) j.length j.length):=gc;rw[K]at c3;have ai:(B:Int)<(w.L.length:Int):=by omega
  have ag:((w.L.length:Int)==0)=false:=Rh.2 (by omega);have ax:=hI J;obtain⟨ra,rn,re⟩:=c.out.m.rng;have U:Hid (∀f,Calls prog 12 #[.int .i64 w.a,.int .i64 ((j.length:Int)+1)] f fun e z=>e=.returned (.int .i64 (eG w.a (j.length+1):Nat))/\z=f):=fun f=>eQ w.a (j.length+1) f ra ⟨by omega,by omega⟩
  have ho:=fY w.a (j.length+1) (by omega);obtain⟨o,Ho⟩:∃o,Hid (eG w.a (j.length+1)=o):=⟨_,rfl⟩
  rw[Ho.out]at U ho
  have N:Hid (∀f,Calls prog 12 #[.int .i64 w.n,.int .i64 ((j.length:Int)-(o:Int)+1)] f fun e z=>e=.returned (.int .i64 (eG w.n (j.length-o+1):Nat))/\z=f):=fun f=>by
   rw[show(j.length:Int)-(o:Int)+1=((j.length-o+1:Nat):Int) by omega];exact eQ w.n (j.length-o+1) f rn ⟨by omega,by omega⟩
  have hn:=fY w.n (j.length-o+1) (by omega);obtain⟨u,Hn⟩:∃u,Hid (eG w.n (j.length-o+1)=u):=⟨_,rfl⟩
  rw[Hn.out]at N hn
  have F:Hid (∀f,Calls prog 12 #[.int .i64 w.e,.int .i64 ((j.length:Int)-(o:Int)-(u:Int)+1)] f fun e z=>e=.returned (.int .i64 (eG w.e (j.length-o-u+1):Nat))/\z=f):=fun f=>by
   rw[show(j.length:Int)-(o:Int)-(u:Int)+1=((j.length-o-u+1:Nat):Int) by omega];exact eQ w.e (j.length-o-u+1) f re ⟨by omega,by omega⟩
  have he:=fY w.e (j.length-o-u+1) (by omega);obtain⟨e,He⟩:∃e,Hid (eG w.e (j.length-o-u+1)=e):=⟨_,rfl⟩
  rw[He.out]at F he;have ac:Hid (∀t,bZ t b d w l->pb t d w i x m fs hd lo hi X O st->Calls prog 13 _ t _):=fun t a V=>a.loads hN V J (o:=o) (n:=u) (e:=e) (by omega)
  clear D e1 e2 J K ra rn re
  go_upto_region 11 with fail
  go_quiet ((go_at_call 12;exact Rd (R.out _)))
  go_upto_region 12 with fail
  obtain⟨t,E⟩:∃t,Hid (C.drewN nq=t):=⟨_,rfl⟩
  rw[E.out];have s:Hid (gx t b H.heap.size d w l 8 y k L v n):=c.out.Vb (by rw[<-E.out];exact(ab.refl [] _).drewN nq);clear Q Y o2 o3 o4 o5 G Z c1 c3 bz z1 d1 z2 d2 gz gc;have c5:t.cell? ⟨b,5,none⟩=some (.int .i64 w.a):=by rw[aa s.out.m.blk];rfl
  have c6:t.cell? ⟨b,6,none⟩=some (.int .i64 w.n):=by rw[aa s.out.m.blk];rfl
  have c7:t.cell? ⟨b,7,none⟩=some (.int .i64 w.e):=by rw[aa s.out.m.blk];rfl
  have bz:=ae s.out.m.blk;have g:Hid (pb t d w i x m fs hd lo hi X O st):=ad.out.Vb (by rw[<-E.out];exact(ab.refl [] _).drewN nq);have P:=hI (ac.out t s.out.m g.out)
  go_upto_region 13 with (go_at_call 12;refine QU (U.out _) ?_;rintro q w4 ⟨rfl,r⟩;rw[r];clear r)
  go_upto_region 14 with (go_at_call 12;refine QU (N.out _) ?_;rintro q w4 ⟨rfl,r⟩;rw[r];clear r)
  go_upto_region 15 with (go_at_call 12;refine QU (F.out _) ?_;rintro q w4 ⟨rfl,r⟩;rw[r];clear r)
  go_wp2_with (go_at_call 13;refine QU P.out ?_;rintro q w4 ⟨rfl,q1,⟨h',q2,q3⟩,q4⟩);go_ret;exact⟨rfl,s.out.m.both g.out.v g.out.i6 g.out.i7 q1 q2 (Q1 ⟨rfl,rfl⟩) (Q1 ⟨rfl,rfl⟩) q3 (Gh g.out.far g.out.p.lt q3) q4 (LF g.out.ok _)⟩
end Go.Proofs.YtpddjjabfbfifaaGreat
