import Derived.Test.YtpddjjabfbfifaaGreatG22
namespace Go.Proofs.YtpddjjabfbfifaaGreat
open Go.RowKit Tryz
set_option maxRecDepth 100000
set_option maxHeartbeats 40000000
variable{T y0:World}{x M a z0 z4 y3 y4 y8 y9 y7:Nat}{N yg:Nat×Nat->It}{S:Mc}{I y5:Hd}{f z3:Fs}{zt y1:Option Nat}{yf ya:ByteArray}{yd:List Nat}(D i:Nat)(z6:Fs)(zb:Hd)(g o b l:Nat)(y2:Option Nat)(d:Nat×Nat->It)(w:Mc)(y6 y k L:Int)(v n:ByteArray)(H:World)
theorem OZ:(prog.info? 46).map (fun i=>(i.zero,i.size,i.bytes))=some (some (.pointer none),1,8):=by kernel_rfl
theorem OX:(prog.info? 47).map (fun i=>(i.zero,i.size,i.bytes))=some (some (.pointer none),1,8):=by kernel_rfl
theorem zd(L:List Nat)(x:Nat):(⟨(lB l L).e,(lB l L).size,(lB l L).n+1,(lB l L).xs++[NY x]⟩:dN)=lB l (L++[x]):=by
 simp[lB]
theorem bZ.addV(h:bZ T x N S M)(c:yg=fk (fk N (6,S.V.length) (O6 a [] 0 0 none)) (7,S.V.length) (O4 z0 ⟨none,0⟩ [] 0 0 none))(p:nJ y0 (fk (fk (fk (fk yg (1,0) (ce I (lB 46 (S.V.map (·.1)++[a])))) (0,0) (rB x 42 (S.cells.set 0 (.slice I.ao (S.V.length+1) I.cap)))) (2,0) (ce y5 (lB 47 (S.V.map (·.2.1)++[z0])))) (0,0) (rB x 42 ((S.cells.set 0 (.slice I.ao (S.V.length+1) I.cap)).set 1 (.slice y5.ao (S.V.length+1) y5.cap))))) :
  ∃n k,bZ y0 x n k (M+1)/\rh N S n k:=by
 refine⟨_,{ S with hx:=I,hm:=y5,V:=S.V++[(a,z0,[])] },⟨p,?_,?_,?_,?_,?_,?_,?_,?_,?_,?_,?_⟩,?_⟩
 ·rw[bJ];unfold Mc.cells;rw[Q0];rfl
 ·rw[aq _ _ (bn (by decide)),aq _ _ (bn (by decide)),aq _ _ (bn (by decide)),bJ,Ry];rfl
 ·rw[aq _ _ (bn (by decide)),bJ,Ry];rfl
 ·subst c;simp only[fk];exact h.r
 ·subst c;simp only[fk];exact h.ls
 ·subst c;simp only[fk];exact h.lw
 ·intro i f m d b
  rw[aq _ _ (bn (by decide)),aq _ _ (bn (by decide)),aq _ _ (bn (by decide)),aq _ _ (bn (by decide)),aq _ _ (bn (by decide)),aq _ _ (bn (by decide)),aq _ _ (bn (by decide)),aq _ _ (bn (by decide))];replace b:(S.V++[(a,z0,[])])[i]?=some (f,m,d):=b;subst c
  by_cases e:i<S.V.length
  ·rw[Q7 e]at b
   rw[aq _ _ (bn (by decide)),aq _ _ (rC (by omega)),aq _ _ (rC (by omega)),aq _ _ (bn (by decide))];exact h.v i f m d b
  ·have o:i=S.V.length:=by
    have:=(Q8.1 b).1;rw[Q0]at this;have:i<S.V.length+1:=this;omega
   subst o;rw[Q5 (QR _),RY]at b
   cases b
   rw[aq _ _ (bn (by decide)),bJ,bJ];exact⟨⟨none,⟨none,0⟩,0,0,0,0,rfl,rfl⟩,fun j g=>by cases g⟩
 ·intro i f m d b
  subst c;simp only[fk];exact h.more.l i f m d b
 ·exact h.fit
 ·refine⟨?_,h.more.len.2.1,h.more.len.2.2⟩
  have:=h.len.1
  show(S.V++[(a,z0,[])]).length<=_
  rw[Q0];show _+1<=_;omega
 ·exact h.rng
 ·subst c;exact⟨fun j i g=>by(repeat rw[oY (by decide) g]),rfl,rfl⟩
theorem Pa(h:bZ H b d w l)(hN:l<=1073741824) :
  Calls prog 11 #[.pointer (some ⟨b,0,none⟩),.agg #[.int .i64 1,.int .i64 y,.int .i64 k,.int .i64 L,.string v,.string n]] H fun e w'=>iB b d w l true e w':=by
 obtain⟨W,HW⟩:∃W,Hid (H.alloc (.cells #[.int .i64 1,.int .i64 y,.int .i64 k,.int .i64 L,.string v,.string n] 28)=W):=⟨_,rfl⟩
 obtain⟨hM,hB,ar,-⟩:=h.boxed 1 y k L v n W HW.out;obtain⟨o0,-⟩:=cQ hB;have oz:=ae hB;obtain⟨iX,Z,A,Q,I⟩:=Re OZ;obtain⟨iM,al,F,R,G⟩:=Re OX;have z:Hid (bZ W b d w l):=hM;have ad:Hid ((lB 46 (w.V.map (·.1))).n<=4294967296):=by show(w.V.map _).length<=_;rw[Ri];have:=h.len.1;omega
 have ag:Hid ((lB 47 (w.V.map (·.2.1))).n<=4294967296):=by show(w.V.map _).length<=_;rw[Ri];have:=h.len.1;omega
 have M:Hid ((lB 46 (w.V.map (·.1))).n=w.V.length):=Ri _;have S:Hid ((lB 47 (w.V.map (·.2.1))).n=w.V.length):=Ri _;clear h hM hB;go_enter func11,ntmps11
 go_upto_region 1 with fail
 rw[HW.out]
 go_upto_region 5 with (go_at_call 27;refine QU (NN W) ?_;rintro e U ⟨rfl,hX,k1⟩)
 have S1:=hI (z.out.sep.put (6,w.V.length) (O6 W.heap.size [] 0 0 none) (k1.mono (by simp)) ⟨Ro _,hX⟩ (fun q g=>QV (by rcases Rj.1 g with e | e;exact US e.symm;exact absurd (ng.1 e).2 (T0 _))))
 go_upto_region 6 with (go_at_call 28;refine QU (IX U) ?_;rintro e w2 ⟨rfl,hY,k2⟩)
 have S2:=hI (S1.out.put (7,w.V.length) (O4 U.heap.size ⟨none,0⟩ [] 0 0 none) (k2.mono (by simp)) ⟨Ro _,_,_,_,hY⟩ (fun q g=>QV (by rcases Rj.1 g with e | e;exact US e.symm;exact absurd (ng.1 (show q∈ie 0 0 from e)).2 (T0 _))));have a:=(show Hid _ from(z.out.Vb k1).Vb k2);clear hX hY k1 k2;have c0:w2.cell? ⟨b,0,none⟩=some (.slice w.hx.ao w.V.length w.hx.cap):=by rw[aa a.out.blk];rfl
 have fb:=am a.out.blk;have bz:=ae a.out.blk;have O:=a.out.ownX;have E:Hid (b∉w.hx.blk.toList):=fun g=>a.out.sep.far (0,0) (1,0) (bn (by decide)) b (by rw[a.out.w0];exact Q9.2 rfl) (by rw[a.out.x];exact g)
 obtain⟨J,s⟩:∃J,Hid (J=fk (fk d (6,w.V.length) (O6 W.heap.size [] 0 0 none)) (7,w.V.length) (O4 U.heap.size ⟨none,0⟩ [] 0 0 none)):=⟨_,rfl⟩
 rw[<-s.out]at S2;have an:Hid (J (0,0)=rB b 42 w.cells):=by show _=_;rw[s.out,aq _ _ (bn (by decide)),aq _ _ (bn (by decide))];exact z.out.w0
 have ai:Hid (J (1,0)=ce w.hx (lB 46 (w.V.map (·.1)))):=by show _=_;rw[s.out,aq _ _ (bn (by decide)),aq _ _ (bn (by decide))];exact z.out.x
 have ap:Hid (J (2,0)=ce w.hm (lB 47 (w.V.map (·.2.1)))):=by show _=_;rw[s.out,aq _ _ (bn (by decide)),aq _ _ (bn (by decide))];exact z.out.m
 obtain⟨X,P⟩:∃X,Hid (W.heap.size=X):=⟨_,rfl⟩
 obtain⟨Y,N⟩:∃Y,Hid (U.heap.size=Y):=⟨_,rfl⟩
 rw[P.out,N.out]at s;rw[P.out,N.out]
 go_upto_region 7 with (at_builtin;refine cZ w2 rfl (.tmp 29) (.tmp 31) 31 rfl iX (.pointer none) 8 w.hx (lB 46 (w.V.map (·.1))) [NY X] underlying31 Z A Q I rfl Rc (by rw[M.out];simp[Act.eval]) O ad.out (by omega) (by simp[Act.eval]) rfl (by simp[NY,Value.oneCell']) ?_;intro c w5 p r;rw[zd]at p;have T:=r.kept.get a.out.blk E.out;have f5:=am T;have c5:w5.cell? ⟨b,0,none⟩=some (.slice w.hx.ao w.V.length w.hx.cap):=(by rw[aa T];rfl);have z5:=ae T)
 rw[M.out];have u:=hI (S2.out.grown an.out (bn (by decide)) ai.out r p 0 (.slice c.ao (w.V.length+1) c.cap));obtain⟨t,ac⟩:∃t,Hid (w5.setCell ⟨b,0,none⟩ (.slice c.ao (w.V.length+1) c.cap)=t):=⟨_,rfl⟩
 rw[ac.out]at u ⊢;have f:=hI (bJ (fk J (1,0) (ce c (lB 46 (w.V.map (·.1)++[X])))) (0,0) (rB b 42 (w.cells.set 0 (.slice c.ao (w.V.length+1) c.cap))));obtain⟨J6,i⟩:∃J6,Hid (fk (fk J (1,0) (ce c (lB 46 (w.V.map (·.1)++[X])))) (0,0) (rB b 42 (w.cells.set 0 (.slice c.ao (w.V.length+1) c.cap)))=J6):=⟨_,rfl⟩
 have j:Hid (J6 (2,0)=ce w.hm (lB 47 (w.V.map (·.2.1)))):=by show _=_;rw[<-i.out,aq _ _ (bn (by decide)),aq _ _ (bn (by decide))];exact ap.out
 rw[i.out]at u f
 have K:t.heap[b]?=some (.cells (w.cells.set 0 (.slice c.ao (w.V.length+1) c.cap)).toArray 42 (0,0)):=by
  have:=u.out.all (0,0);rw[f.out]at this;exact this
 have af:=hI K
 have D:aw t w.hm (lB 47 (w.V.map (·.2.1))):=by
  have:=u.out.all (2,0);rw[j.out]at this;exact this
 have o:Hid (b∉w.hm.blk.toList):=fun g=>u.out.far (0,0) (2,0) (bn (by decide)) b (by rw[f.out];exact Q9.2 rfl) (by rw[j.out];exact g)
 clear T f5 c5 z5 p r c0 fb bz O;have c1:t.cell? ⟨b,1,none⟩=some (.slice w.hm.ao w.V.length w.hm.cap):=by rw[aa K];rfl
 have fb:=am K;have bz:=ae K;clear K;go_wp2_with (at_builtin;refine cZ t rfl (.tmp 39) (.tmp 41) 32 rfl iM (.pointer none) 8 w.hm (lB 47 (w.V.map (·.2.1))) [NY Y] underlying32 al F R G rfl Rc (by rw[S.out];simp[Act.eval]) D ag.out (by omega) (by simp[Act.eval]) rfl (by simp[NY,Value.oneCell']) ?_;intro h7 w7 B C;rw[zd]at B;have p7:=C.kept.get af.out o.out;have f7:=am p7;have c7:w7.cell? ⟨b,1,none⟩=some (.slice w.hm.ao w.V.length w.hm.cap):=(by rw[aa p7];rfl);have z7:=ae p7;rw[S.out]);go_ret;have S7:=u.out.grown f.out (bn (by decide)) j.out C B 1 (.slice h7.ao (w.V.length+1) h7.cap);rw[<-i.out]at S7;exact⟨rfl,z.out.addV s.out S7⟩
theorem Lw:(prog.info? 33).map (fun i=>(i.zero,i.size,i.bytes))=some (some (.slice none 0 0),1,24):=by kernel_rfl
theorem qt(L:List (Option Nat×Fs))(x:Option Nat×Fs):(⟨(ig L).e,(ig L).size,(ig L).n+1,(ig L).xs++[Aj x]⟩:dN)=ig (L++[x]):=by
 simp[ig]
theorem aw.srcO(o:aw T I (cr f)):kR T I.ao f:=by
 intro k c;obtain⟨g,e,a,d,b⟩:=o.srcFi.2 k c;exact⟨g,0,e,a,by rw[SJ];exact d,by rw[SJ];exact b⟩
theorem bZ.addL{a c:Option Nat}{fs:Fs}(h:bZ T x N S M)(q:ld fs)(k:fs.length<=M+1)(d:yg=fk (fk (fk N (8,S.L.length) (uI a fs)) (4,0) (ce I (ig (S.L.map (fun l=>(l.1,l.2.2))++[(a,fs)])))) (0,0) (rB x 42 (S.cells.set 3 (.slice I.ao (S.L.length+1) I.cap))))(t:nJ y0 (fk (fk (fk yg (9,S.L.length) (uI c fs)) (5,0) (ce y5 (ig (S.L.map (fun l=>(l.2.1,l.2.2))++[(c,fs)])))) (0,0) (rB x 42 ((S.cells.set 3 (.slice I.ao (S.L.length+1) I.cap)).set 4 (.slice y5.ao (S.L.length+1) y5.cap))))) :
  ∃o n,bZ y0 x o n (M+1)/\rh N S o n:=by
 refine⟨_,{ S with hl:=I,hc:=y5,L:=S.L++[(a,c,fs)] },⟨t,?_,?_,?_,?_,?_,?_,?_,?_,?_,?_,?_⟩,?_⟩
 ·rw[bJ];unfold Mc.cells;rw[Q0];rfl
 ·subst d;simp only[fk];exact h.x
 ·subst d;simp only[fk];exact h.m
 ·subst d;simp only[fk];exact h.r
 ·subst d;rw[aq _ _ (bn (by decide)),aq _ _ (bn (by decide)),aq _ _ (bn (by decide)),aq _ _ (bn (by decide)),bJ,Ry];rfl
 ·rw[aq _ _ (bn (by decide)),bJ,Ry];rfl
 ·intro i g m fs b
  subst d;simp only[fk];exact h.v i g m fs b
 ·intro i g m f b
  rw[aq _ _ (bn (by decide)),aq _ _ (bn (by decide)),aq _ _ (bn (by decide)),aq _ _ (bn (by decide)),aq _ _ (bn (by decide))];replace b:(S.L++[(a,c,fs)])[i]?=some (g,m,f):=b;subst d;rw[aq _ _ (bn (by decide)),aq _ _ (bn (by decide))]
  by_cases e:i<S.L.length
  ·rw[Q7 e]at b
   rw[aq _ _ (rC (by omega)),aq _ _ (rC (by omega)),aq _ _ (bn (by decide)),aq _ _ (bn (by decide)),aq _ _ (bn (by decide))];exact h.more.l i g m f b
  ·have p:i=S.L.length:=by
    have:=(Q8.1 b).1;rw[Q0]at this;have:i<S.L.length+1:=this;omega
   subst p;rw[Q5 (QR _),RY]at b
   cases b
   rw[bJ,bJ];exact⟨rfl,rfl,q,k⟩
 ·exact h.fit
 ·refine⟨h.more.len.1,h.more.len.2.1,?_⟩
  have:=h.len.2.2
  show(S.L++[(a,c,fs)]).length<=_
  rw[Q0];show _+1<=_;omega
 ·exact h.rng
 ·subst d;exact⟨fun j i s=>by(repeat rw[oY (by decide) s]),rfl,rfl⟩
theorem nJ.rowAt{c:List Value}{k:Nat×Nat}{r:dN}(s:nJ T N)(a:N (0,0)=rB x M c)(b:k≠(0,0))(e:N k=ce I r):T.heap[x]?=some (.cells c.toArray M (0,0))/\aw T I r/\x∉I.blk.toList:=by
 refine⟨?_,?_,fun d=>s.far (0,0) k (Ne.symm b) x (by rw[a];exact Q9.2 rfl) (by rw[e];exact d)⟩
 ·have:=s.all (0,0);rw[a]at this;exact this
 ·have:=s.all k;rw[e]at this;exact this
theorem Pe(h:bZ H b d w l)(hN:l<=1073741824) :
  Calls prog 11 #[.pointer (some ⟨b,0,none⟩),.agg #[.int .i64 5,.int .i64 y,.int .i64 k,.int .i64 L,.string v,.string n]] H fun e w'=>iB b d w l true e w':=by
 obtain⟨W,HW⟩:∃W,Hid (H.alloc (.cells #[.int .i64 5,.int .i64 y,.int .i64 k,.int .i64 L,.string v,.string n] 28)=W):=⟨_,rfl⟩
 obtain⟨z,hB,ag,-⟩:=h.boxed 5 y k L v n W HW.out;obtain⟨o0,-⟩:=cQ hB;have oz:=ae hB;obtain⟨iX,E,m,p,r⟩:=Re Lw;have HM:Hid (bZ W b d w l):=z;have af:Hid ((ig (w.L.map (fun f=>(f.1,f.2.2)))).n<=4294967296):=by show(w.L.map _).length<=_;rw[Ri];have:=h.len.2.2;omega
 have ad:Hid ((ig (w.L.map (fun f=>(f.2.1,f.2.2)))).n<=4294967296):=by show(w.L.map _).length<=_;rw[Ri];have:=h.len.2.2;omega
 have N:Hid ((ig (w.L.map (fun f=>(f.1,f.2.2)))).n=w.L.length):=Ri _;have U:Hid ((ig (w.L.map (fun f=>(f.2.1,f.2.2)))).n=w.L.length):=Ri _;have S1:Hid (nJ W (fk d (8,w.L.length) (uI none []))):=z.sep.put _ _ (ab.refl _ _) ⟨fun _=>rfl,fun b e=>by cases e⟩ (fun q Z=>by cases Z);obtain⟨J,P⟩:∃J,Hid (J=fk d (8,w.L.length) (uI none [])):=⟨_,rfl⟩
 rw[<-P.out]at S1;have S:Hid (J (0,0)=rB b 42 w.cells):=by show _=_;rw[P.out,aq _ _ (bn (by decide))];exact z.w0
 have D:Hid (J (4,0)=ce w.hl (ig (w.L.map (fun f=>(f.1,f.2.2))))):=by show _=_;rw[P.out,aq _ _ (bn (by decide))];exact z.ls
 have Y:Hid (J (5,0)=ce w.hc (ig (w.L.map (fun f=>(f.2.1,f.2.2))))):=by show _=_;rw[P.out,aq _ _ (bn (by decide))];exact z.lw
 obtain⟨R,B,o⟩:=S1.out.rowAt S.out (bn (by decide)) D.out;have C:Hid (W.heap[b]?=some (.cells w.cells.toArray 42 (0,0))/\b∉w.hl.blk.toList):=⟨R,o⟩;have c0:W.cell? ⟨b,3,none⟩=some (.slice w.hl.ao w.L.length w.hl.cap):=by rw[aa R];rfl
 have fb:=am R;have bz:=ae R;clear h z hB R o;go_enter func11,ntmps11
 go_upto_region 1 with fail
 rw[HW.out]
 go_upto_region 22 with (at_builtin;refine cZ W rfl (.tmp 105) (.tmp 106) 34 rfl iX (.slice none 0 0) 24 w.hl (ig (w.L.map (fun f=>(f.1,f.2.2)))) [Aj (none,[])] underlying34 E m p r rfl Rc (by rw[N.out];simp[Act.eval]) B af.out (by omega) (by simp[Act.eval]) rfl (by simp[Aj,Value.oneCell']) ?_;intro g w5 t u;rw[qt]at t;have V:=u.kept.get C.out.1 C.out.2;have f5:=am V;have c5:w5.cell? ⟨b,3,none⟩=some (.slice w.hl.ao w.L.length w.hl.cap):=(by rw[aa V];rfl);have z5:=ae V)
 rw[N.out];have S5:=hI (S1.out.grown S.out (bn (by decide)) D.out u t 3 (.slice g.ao (w.L.length+1) g.cap));obtain⟨x,ac⟩:∃x,Hid (w5.setCell ⟨b,3,none⟩ (.slice g.ao (w.L.length+1) g.cap)=x):=⟨_,rfl⟩
 rw[ac.out]at S5 ⊢;obtain⟨F,T⟩:∃F,F=fk (fk J (4,0) (ce g (ig (w.L.map (fun f=>(f.1,f.2.2))++[(none,[])])))) (0,0) (rB b 42 (w.cells.set 3 (.slice g.ao (w.L.length+1) g.cap))):=⟨_,rfl⟩
 have i:=hI T;clear T;rw[<-i.out]at S5;have S6:Hid (nJ x (fk F (9,w.L.length) (uI none []))):=S5.out.put _ _ (ab.refl _ _) ⟨fun _=>rfl,fun b e=>by cases e⟩ (fun q Z=>by cases Z);have K:Hid (fk F (9,w.L.length) (uI none []) (0,0)=rB b 42 (w.cells.set 3 (.slice g.ao (w.L.length+1) g.cap))):=by show _=_;rw[aq _ _ (bn (by decide)),i.out,bJ]
 have G:Hid (fk F (9,w.L.length) (uI none []) (5,0)=ce w.hc (ig (w.L.map (fun f=>(f.2.1,f.2.2))))):=by show _=_;rw[aq _ _ (bn (by decide)),i.out,aq _ _ (bn (by decide)),aq _ _ (bn (by decide))];exact Y.out
 obtain⟨I,Q,s⟩:=S6.out.rowAt K.out (bn (by decide)) G.out;have M:Hid (x.heap[b]?=some (.cells (w.cells.set 3 (.slice g.ao (w.L.length+1) g.cap)).toArray 42 (0,0))/\b∉w.hc.blk.toList):=⟨I,s⟩;clear V f5 c5 z5 t u c0 fb bz B;have c1:x.cell? ⟨b,4,none⟩=some (.slice w.hc.ao w.L.length w.hc.cap):=by rw[aa I];rfl
 have fb:=am I;have bz:=ae I;clear I s;go_wp2_with (at_builtin;refine cZ x rfl (.tmp 115) (.tmp 116) 34 rfl iX (.slice none 0 0) 24 w.hc (ig (w.L.map (fun f=>(f.2.1,f.2.2)))) [Aj (none,[])] underlying34 E m p r rfl Rc (by rw[U.out];simp[Act.eval]) Q ad.out (by omega) (by simp[Act.eval]) rfl (by simp[Aj,Value.oneCell']) ?_;intro h7 w7 A O;rw[qt]at A;have X:=O.kept.get M.out.1 M.out.2;have f7:=am X;have c7:w7.cell? ⟨b,4,none⟩=some (.slice w.hc.ao w.L.length w.hc.cap):=(by rw[aa X];rfl);have z7:=ae X;rw[U.out]);go_ret;have S7:=S6.out.grown K.out (bn (by decide)) G.out O A 4 (.slice h7.ao (w.L.length+1) h7.cap);exact⟨rfl,HM.out.addL (a:=none) (c:=none) (fs:=[]) (fun j=>⟨by show(0:Nat)<=_;omega,by show(0:Nat)<=_;omega⟩) (Ro _) (by rw[i.out,P.out]) S7⟩
theorem Pd(h:bZ H b d w l)(hN:l<=1073741824) :
  Calls prog 11 #[.pointer (some ⟨b,0,none⟩),.agg #[.int .i64 4,.int .i64 y,.int .i64 k,.int .i64 L,.string v,.string n]] H fun e w'=>iB b d w l true e w':=by
 obtain⟨W,HW⟩:∃W,Hid (H.alloc (.cells #[.int .i64 4,.int .i64 y,.int .i64 k,.int .i64 L,.string v,.string n] 28)=W):=⟨_,rfl⟩
 obtain⟨Q,hB,a2,-⟩:=h.boxed 4 y k L v n W HW.out;obtain⟨o0,-⟩:=cQ hB;have oz:=ae hB;obtain⟨iX,N,m,u,t⟩:=Re Lw;have E:Hid (bZ W b d w l):=Q;have A:Hid (w.reg.length<=l):=h.len.2.1;have aS:Hid ((ig (w.L.map (fun f=>(f.1,f.2.2)))).n<=4294967296):=by show(w.L.map _).length<=_;rw[Ri];have:=h.len.2.2;omega
 have a1:Hid ((ig (w.L.map (fun f=>(f.2.1,f.2.2)))).n<=4294967296):=by show(w.L.map _).length<=_;rw[Ri];have:=h.len.2.2;omega
 have af:Hid ((ig (w.L.map (fun f=>(f.1,f.2.2)))).n=w.L.length):=Ri _;have al:Hid ((ig (w.L.map (fun f=>(f.2.1,f.2.2)))).n=w.L.length):=Ri _;have az:Hid (Calls prog 29 #[.slice w.hr.ao w.reg.length w.hr.cap] W _):=jE w.hr.ao w.hr.cap w.reg W Q.ownR.srcO (by have:=A.out;omega);have c2:W.cell? ⟨b,2,none⟩=some (.slice w.hr.ao w.reg.length w.hr.cap):=by rw[aa Q.blk];rfl
 have I:=ae Q.blk;clear h Q hB;go_enter func11,ntmps11
 go_upto_region 1 with fail
 rw[HW.out]
 go_upto_region 14 with (go_at_call 29;refine QU az.out ?_;rintro e w1 ⟨rfl,ad,k1⟩)
 have S1:Hid (nJ w1 (fk d (8,w.L.length) (uI (some W.heap.size) w.reg))):=E.out.sep.put _ _ (k1.mono (by simp)) ⟨(fun e=>by cases e),(fun q e=>by cases e;exact ad)⟩ (fun q hq=>QV (by rw[Q9.1 hq];exact QR _));obtain⟨K,an⟩:∃K,Hid (W.heap.size=K):=⟨_,rfl⟩
 rw[an.out]at S1 ⊢;obtain⟨J,G⟩:∃J,Hid (J=fk d (8,w.L.length) (uI (some K) w.reg)):=⟨_,rfl⟩
 rw[<-G.out]at S1;have ai:Hid (J (0,0)=rB b 42 w.cells):=by show _=_;rw[G.out,aq _ _ (bn (by decide))];exact E.out.w0
 have a0:Hid (J (3,0)=ce w.hr (cr w.reg)):=by show _=_;rw[G.out,aq _ _ (bn (by decide))];exact E.out.r
 have ac:Hid (J (4,0)=ce w.hl (ig (w.L.map (fun f=>(f.1,f.2.2))))):=by show _=_;rw[G.out,aq _ _ (bn (by decide))];exact E.out.ls
 have aT:Hid (J (5,0)=ce w.hc (ig (w.L.map (fun f=>(f.2.1,f.2.2))))):=by show _=_;rw[G.out,aq _ _ (bn (by decide))];exact E.out.lw
 obtain⟨R,ag,p⟩:=S1.out.rowAt ai.out (bn (by decide)) ac.out;have M:Hid (w1.heap[b]?=some (.cells w.cells.toArray 42 (0,0))/\b∉w.hl.blk.toList):=⟨R,p⟩;have c0:w1.cell? ⟨b,3,none⟩=some (.slice w.hl.ao w.L.length w.hl.cap):=by rw[aa R];rfl
 have fb:=am R;clear I;have I:=ae R;clear R p c2 k1 ad
 go_upto_region 16 with (at_builtin;refine cZ w1 rfl (.tmp 76) (.tmp 78) 34 rfl iX (.slice none 0 0) 24 w.hl (ig (w.L.map (fun f=>(f.1,f.2.2)))) [Aj (some K,w.reg)] underlying34 N m u t rfl Rc (by rw[af.out];simp[Act.eval]) ag aS.out (by omega) (by simp[Act.eval]) rfl (by simp[Aj,Value.oneCell']) ?_;intro g w5 B D;rw[qt]at B;have p5:=D.kept.get M.out.1 M.out.2;have f5:=am p5;have c5:w5.cell? ⟨b,3,none⟩=some (.slice w.hl.ao w.L.length w.hl.cap):=(by rw[aa p5];rfl);have z5:=ae p5)
 rw[af.out];have S5:=hI (S1.out.grown ai.out (bn (by decide)) ac.out D B 3 (.slice g.ao (w.L.length+1) g.cap));obtain⟨C,ax⟩:∃C,Hid (w5.setCell ⟨b,3,none⟩ (.slice g.ao (w.L.length+1) g.cap)=C):=⟨_,rfl⟩
 rw[ax.out]at S5 ⊢;obtain⟨z,S⟩:∃z,z=fk (fk J (4,0) (ce g (ig (w.L.map (fun f=>(f.1,f.2.2))++[(some K,w.reg)])))) (0,0) (rB b 42 (w.cells.set 3 (.slice g.ao (w.L.length+1) g.cap))):=⟨_,rfl⟩
 have i:=hI S;clear S;rw[<-i.out]at S5;have ar:Hid (z (3,0)=ce w.hr (cr w.reg)):=by show _=_;rw[i.out,aq _ _ (bn (by decide)),aq _ _ (bn (by decide))];exact a0.out
 have s:Hid (z (0,0)=rB b 42 (w.cells.set 3 (.slice g.ao (w.L.length+1) g.cap))):=by show _=_;rw[i.out,bJ]
 obtain⟨j,x,-⟩:=S5.out.rowAt s.out (bn (by decide)) ar.out;have U:Hid (Calls prog 29 #[.slice w.hr.ao w.reg.length w.hr.cap] C _):=jE w.hr.ao w.hr.cap w.reg C x.srcO (by have:=A.out;omega);clear p5 f5 c5 z5 B D c0 fb I ag x;have c2:C.cell? ⟨b,2,none⟩=some (.slice w.hr.ao w.reg.length w.hr.cap):=by rw[aa j];rfl
 have I:=ae j;clear j
 go_upto_region 17 with (go_at_call 29;refine QU U.out ?_;rintro e w8 ⟨rfl,O,k2⟩)
 have S6:Hid (nJ w8 (fk z (9,w.L.length) (uI (some C.heap.size) w.reg))):=S5.out.put _ _ (k2.mono (by simp)) ⟨(fun e=>by cases e),(fun q e=>by cases e;exact O)⟩ (fun q hq=>QV (by rw[Q9.1 hq];exact QR _));obtain⟨F,ap⟩:∃F,Hid (C.heap.size=F):=⟨_,rfl⟩
 rw[ap.out]at S6 ⊢;clear c2 I k2 O;have P:Hid (fk z (9,w.L.length) (uI (some F) w.reg) (0,0)=rB b 42 (w.cells.set 3 (.slice g.ao (w.L.length+1) g.cap))):=by show _=_;rw[aq _ _ (bn (by decide))];exact s.out
 have V:Hid (fk z (9,w.L.length) (uI (some F) w.reg) (5,0)=ce w.hc (ig (w.L.map (fun f=>(f.2.1,f.2.2))))):=by show _=_;rw[aq _ _ (bn (by decide)),i.out,aq _ _ (bn (by decide)),aq _ _ (bn (by decide))];exact aT.out
 obtain⟨j,Z,o⟩:=S6.out.rowAt P.out (bn (by decide)) V.out;have X:Hid (w8.heap[b]?=some (.cells (w.cells.set 3 (.slice g.ao (w.L.length+1) g.cap)).toArray 42 (0,0))/\b∉w.hc.blk.toList):=⟨j,o⟩;have c1:w8.cell? ⟨b,4,none⟩=some (.slice w.hc.ao w.L.length w.hc.cap):=by rw[aa j];rfl
 have fb:=am j;have I:=ae j;clear j o;go_wp2_with (at_builtin;refine cZ w8 rfl (.tmp 92) (.tmp 94) 34 rfl iX (.slice none 0 0) 24 w.hc (ig (w.L.map (fun f=>(f.2.1,f.2.2)))) [Aj (some F,w.reg)] underlying34 N m u t rfl Rc (by rw[al.out];simp[Act.eval]) Z a1.out (by omega) (by simp[Act.eval]) rfl (by simp[Aj,Value.oneCell']) ?_;intro h7 w7 T Y;rw[qt]at T;have p7:=Y.kept.get X.out.1 X.out.2;have f7:=am p7;have c7:w7.cell? ⟨b,4,none⟩=some (.slice w.hc.ao w.L.length w.hc.cap):=(by rw[aa p7];rfl);have z7:=ae p7;rw[al.out]);go_ret;have S7:=S6.out.grown P.out (bn (by decide)) V.out Y T 4 (.slice h7.ao (w.L.length+1) h7.cap);exact⟨rfl,E.out.addL (a:=some K) (c:=some F) (fs:=w.reg) E.out.fit (by have:=A.out;omega) (by rw[i.out,G.out]) S7⟩
theorem Gv{L:List (Option Nat×Option Nat×Fs)}(b:L[x]?=some (zt,y1,f))(a:Option Nat×Option Nat×Fs->Option Nat×Fs)(d:Aj (a (zt,y1,z3))=Aj (a (zt,y1,f))):ig ((L.set x (zt,y1,z3)).map a)=ig (L.map a):=by
 unfold ig
 have e:((L.set x (zt,y1,z3)).map a).map Aj=(L.map a).map Aj:=by
  rw[Tn,Tn,d]
  apply Sq
  intro j;rw[RU]
  by_cases c:x=j
  ·subst c
   rw[QW rfl,Rq,Rq,b];have:=(Q8.1 b).1;simp[this]
  ·rw[QT c]
 rw[e,Ri,Rv,Ri]
theorem Ir(h:ld f)(i:Nat)(b:yf.size<=1073741824)(a:ya.size<=1073741824):ld (f.set i (yf,ya)):=by
 intro j;have:=h j;unfold aE ak at *;rw[QQ]at *;rw[RU]
 by_cases e:i=j
 ·subst e
  rw[QW rfl]
  split
  ·exact⟨b,a⟩
  ·exact⟨by show(0:Nat)<=_;omega,by show(0:Nat)<=_;omega⟩
 ·rw[QT e];exact this
theorem bZ.wrote(h:bZ T x N S M)(g:S.L[a]?=some (zt,y1,f))(k:z3.length=f.length)(t:ld z3)(s:nJ y0 (fk (fk N (8,a) (uI zt z3)) (9,a) (uI y1 z3))):∃o n,bZ y0 x o n (M+1)/\rh N S o n:=by
 refine⟨_,{ S with L:=S.L.set a (zt,y1,z3) },⟨s,?_,?_,?_,?_,?_,?_,?_,?_,?_,?_,?_⟩,?_⟩
 ·rw[aq _ _ (bn (by decide)),aq _ _ (bn (by decide)),h.w0];unfold Mc.cells;rw[Rv]
 ·simp only[fk];exact h.x
 ·simp only[fk];exact h.m
 ·simp only[fk];exact h.r
 ·rw[aq _ _ (bn (by decide)),aq _ _ (bn (by decide)),h.ls]
  congr 1
  exact(Gv g (fun l=>(l.1,l.2.2)) (by simp only[Aj,k])).symm
 ·rw[aq _ _ (bn (by decide)),aq _ _ (bn (by decide)),h.lw]
  congr 1
  exact(Gv g (fun l=>(l.2.1,l.2.2)) (by simp only[Aj,k])).symm
 ·intro i d m f b
  simp only[fk];exact h.v i d m f b
 ·intro i d m c b
  replace b:(S.L.set a (zt,y1,z3))[i]?=some (d,m,c):=b;rw[RU]at b;rw[aq _ _ (bn (by decide))]
  by_cases e:a=i
  ·subst e
   rw[QW rfl,QW (Q8.1 g).1]at b
   cases b
   obtain⟨-,-,-,y⟩:=h.l a zt y1 f g;rw[bJ,bJ];exact⟨rfl,rfl,t,by omega⟩
  ·rw[QT e]at b
   rw[aq _ _ (rC (Ne.symm e)),aq _ _ (rC (Ne.symm e)),aq _ _ (bn (by decide))];exact h.more.l i d m c b
 ·exact h.fit
 ·obtain⟨p,q,w⟩:=h.more.len
  exact⟨p,q,by show(S.L.set a (zt,y1,z3)).length<=_;rw[Rv];exact w⟩
 ·exact h.rng
 ·exact⟨fun j i u=>by(repeat rw[oY (by decide) u]),rfl,rfl⟩
theorem iG.wrote(h:iG T (some x) f)(a:M<f.length)(n d:ByteArray):iG ((T.setCell ⟨x,M*2,none⟩ (.string n)).setCell ⟨x,M*2+1,none⟩ (.string d)) (some x) (f.set M (n,d))/\ab [x] T ((T.setCell ⟨x,M*2,none⟩ (.string n)).setCell ⟨x,M*2+1,none⟩ (.string d)):=by
 refine⟨⟨(fun e=>by cases e),fun q e=>?_⟩,((ab.refl _ _).setCell (Q1 (by simp)) _).setCell (Q1 (by simp)) _⟩
 cases e
 rw[ah (ah (h.blk x rfl) _ _) _ _,Ru,Ru,Gk f M n d a]
theorem iG.cells(h:iG T (some x) f)(c:M<f.length):(T.cell? ⟨x,M*2,none⟩=some (.string (aE f M))/\T.cell? ⟨x,M*2+1,none⟩=some (.string (ak f M)))/\(∀j,T.frozen? ⟨x,j,none⟩=false)/\x<T.heap.size:=by
 have a:=h.blk x rfl;obtain⟨b,d⟩:=v9 f M c;exact⟨⟨by rw[aa a];simpa using b,by rw[aa a];simpa using d⟩,am a,ae a⟩
theorem n8{L:List (Option Nat×Fs)}(o:aw T I (ig L)){k:Nat}{x:Option Nat×Fs}(b:L[k]?=some x):∃g,I.ao=some ⟨g,0,none⟩/\g<T.heap.size/\T.cell? ⟨g,k,none⟩=some (Aj x):=by
 have f:=(Q8.1 b).1
 rcases o.Vm with ⟨_,c,_⟩ | ⟨g,e,a,d,h,-⟩
 ·have c:L.length=0:=c
  omega
 ·exact⟨g,a,ae d,o.cell a k (Aj x) (by show(L.map Aj)[k]?=_;rw[Rq,b];rfl)⟩
theorem Pf(h:bZ H b d w l)(hN:l<=1073741824)(hA:qB y)(hC:qB k)(hs:v.size<=1073741824)(ht:n.size<=1073741824) :
  Calls prog 11 #[.pointer (some ⟨b,0,none⟩),.agg #[.int .i64 6,.int .i64 y,.int .i64 k,.int .i64 L,.string v,.string n]] H fun e w'=>iB b d w l true e w':=by
 obtain⟨W,HW⟩:∃W,Hid (H.alloc (.cells #[.int .i64 6,.int .i64 y,.int .i64 k,.int .i64 L,.string v,.string n] 28)=W):=⟨_,rfl⟩
 obtain⟨r,hB,a7,-⟩:=h.boxed 6 y k L v n W HW.out;obtain⟨o0,o1,o2,o3,M,T,F⟩:=cQ hB;have S:=ae r.blk;have I:W.cell? ⟨b,3,none⟩=some (.slice w.hl.ao w.L.length w.hl.cap):=by rw[aa r.blk];rfl
 by_cases hL:w.L.length=0
 ·have HF:Hid (bZ W b d w l):=r
  rw[hL]at I;clear h r hB;go_enter func11,ntmps11
  go_upto_region 1 with fail
  rw[HW.out];go_wp2;go_ret;exact⟨rfl,_,_,HF.out.more,rh.refl _ _⟩
 ·have bj:=h.len.2.2
  have Y:Hid (∀E,Calls prog 12 #[.int .i64 y,.int .i64 w.L.length] E fun e w'=>e=.returned (.int .i64 (eG y w.L.length:Nat))/\w'=E):=fun E=>eQ y w.L.length E hA ⟨by omega,by omega⟩
  have aS:=fY y w.L.length (by omega);obtain⟨j,Hk⟩:∃j,Hid (eG y w.L.length=j):=⟨_,rfl⟩
  rw[Hk.out]at Y aS;obtain⟨⟨a,c,f⟩,hk⟩:∃x,w.L[j]?=some x:=⟨w.L[j],QP aS⟩
  have HM:Hid (bZ W b d w l):=r;obtain⟨B,D,A,bd⟩:=r.l j a c f hk;obtain⟨gl,U,Z,s⟩:=n8 r.ownL (k:=j) (x:=(a,f)) (by rw[Rq,hk];rfl);replace s:W.cell? ⟨gl,j,none⟩=some (.slice (wD a) f.length f.length):=s;rw[U]at I;have bg:(j:Int)<(w.L.length:Int):=by omega
  have a6:(0:Int)<(w.L.length:Int):=by omega
  have an:=hI hk;have H8:=hI B;have H9:=hI D
  by_cases u:f.length=0
  ·rw[u]at s
   clear h r hB hk B D A U;go_enter func11,ntmps11
   go_upto_region 1 with fail
   rw[HW.out]
   go_upto_region 26 with fail
   go_quiet ((go_at_call 12;exact Rd (Y.out _)))
   have HF:Hid (bZ (W.drewN nq) b d w l):=HM.out.Vb ((ab.refl [] _).drewN nq);go_wp2;go_ret;exact⟨rfl,_,_,HF.out.more,rh.refl _ _⟩
  ·have ai:Hid (∀E,Calls prog 12 #[.int .i64 k,.int .i64 f.length] E fun e w'=>e=.returned (.int .i64 (eG k f.length:Nat))/\w'=E):=fun E=>eQ k f.length E hC ⟨by omega,by omega⟩
   have o:=fY k f.length (by omega);obtain⟨i,Hi⟩:∃i,Hid (eG k f.length=i):=⟨_,rfl⟩
   rw[Hi.out]at ai o;have Q:iG W a f:=by have:=r.sep.all (8,j);rw[B]at this;exact this
   have az:iG W c f:=by have:=r.sep.all (9,j);rw[D]at this;exact this
   obtain⟨m,rfl⟩:∃m,a=some m:=by
    cases a with
    | none=>rw[Q.nil rfl]at u;exact absurd rfl u
    | some m=>exact⟨m,rfl⟩
   obtain⟨p,rfl⟩:∃p,c=some p:=by
    cases c with
    | none=>rw[az.nil rfl]at u;exact absurd rfl u
    | some p=>exact⟨p,rfl⟩
   have aT:=(Q.cells o).2.2
   have K:m≠H.heap.size:=by
    intro e;have:=(uI (some m) f).lt H (by have:=h.sep.all (8,j);rw[(h.l j _ _ f hk).1]at this;exact this) m (Q9.2 rfl);omega
   have a2:=hI hB;have ac:Hid (ld (f.set i (v,n))):=Ir A i hs ht;replace s:W.cell? ⟨gl,j,none⟩=some (.slice (some ⟨m,0,none⟩) f.length f.length):=s;have be:(i:Int)<(f.length:Int):=by omega
   have bf:(0:Int)<(f.length:Int):=by omega
   have a4:=hI K
   have J:Hid (∀t,ab [] W t->(t.cell? ⟨H.heap.size,2,none⟩=some (.int .i64 k)/\t.cell? ⟨H.heap.size,4,none⟩=some (.string v)/\t.cell? ⟨H.heap.size,5,none⟩=some (.string n)/\H.heap.size<t.heap.size)/\(t.cell? ⟨b,3,none⟩=some (.slice (some ⟨gl,0,none⟩) w.L.length w.hl.cap)/\b<t.heap.size)/\t.cell? ⟨gl,j,none⟩=some (.slice (some ⟨m,0,none⟩) f.length f.length)/\gl<t.heap.size):=fun t kw=>by
    have q:∀g i,g<W.heap.size->t.cell? ⟨g,i,none⟩=W.cell? ⟨g,i,none⟩:=fun g i hg=>Q6 (kw.block g hg (by simp))
    have z:=kw.size;exact⟨⟨by rw[q _ _ F];exact o2,by rw[q _ _ F];exact M,by rw[q _ _ F];exact T,by omega⟩,⟨by rw[q _ _ S];exact I,by omega⟩,by rw[q _ _ Z];exact s,by omega⟩
   clear h r hB hk B D A U Q az K aT;go_enter func11,ntmps11
   go_upto_region 1 with fail
   rw[HW.out]
   go_upto_region 26 with fail
   go_quiet ((go_at_call 12;exact Rd (Y.out _)))
   go_upto_region 28 with fail
   obtain⟨W2,ag⟩:∃W2,Hid (W.drewN nq=W2):=⟨_,rfl⟩
   rw[ag.out];have af:Hid (ab [] W W2):=by show ab _ _ _;rw[<-ag.out];exact(ab.refl [] _).drewN nq
   clear o0 o1 o2 o3 M T F I S s Z;obtain⟨⟨o2,M,T,F⟩,⟨I,S⟩,s,Z⟩:=J.out W2 af.out
   go_quiet ((go_at_call 12;exact Rd (ai.out _)))
   go_upto_region 29 with fail
   obtain⟨G,ap⟩:∃G,Hid (W2.drewN nq=G):=⟨_,rfl⟩
   rw[ap.out];have R:Hid (ab [] W G):=by show ab _ _ _;rw[<-ap.out];exact af.out.drewN nq
   have ax:Hid (bZ G b d w l):=HM.out.Vb R.out;have O:Hid (iG G (some m) f):=by show iG _ _ _;have:=ax.out.sep.all (8,j);rw[H8.out]at this;exact this
   clear o2 M T F I S s Z;obtain⟨⟨o2,M,T,F⟩,⟨I,S⟩,s,Z⟩:=J.out G R.out;obtain⟨⟨d0,d1⟩,df,dz⟩:=O.out.cells o
   go_region
   all_goals
    obtain⟨C,P⟩:∃C,Hid (((G.setCell ⟨m,i*2,none⟩ (.string v)).setCell ⟨m,i*2+1,none⟩ (.string n)).drew=C):=⟨_,rfl⟩
    rw[P.out];have ad:Hid (ab [m] G C):=by show ab _ _ _;rw[<-P.out];exact(O.out.wrote o v n).2.drew
    have S4:Hid (nJ C (fk d (8,j) (uI (some m) (f.set i (v,n))))):=by
     show nJ _ _
     refine ax.out.sep.put _ _ (by rw[H8.out];exact ad.out) ?_ (fun q hq=>Q1 (by rw[H8.out];exact hq));rw[<-P.out];exact(uI _ _).ok [] _ _ (O.out.wrote o v n).1 (ab.refl [] _).drew (by simp)
    have a1:Hid (fk d (8,j) (uI (some m) (f.set i (v,n))) (0,0)=rB b 42 w.cells):=by show _=_;rw[aq _ _ (bn (by decide))];exact HM.out.w0
    have a3:Hid (fk d (8,j) (uI (some m) (f.set i (v,n))) (5,0)=ce w.hc (ig (w.L.map (fun a5=>(a5.2.1,a5.2.2))))):=by show _=_;rw[aq _ _ (bn (by decide))];exact HM.out.lw
    have X:Hid (fk d (8,j) (uI (some m) (f.set i (v,n))) (9,j)=uI (some p) f):=by show _=_;rw[aq _ _ (bn (by decide))];exact H9.out
    obtain⟨b4,al,-⟩:=S4.out.rowAt a1.out (bn (by decide)) a3.out;have V:Hid (iG C (some p) f):=by show iG _ _ _;have:=S4.out.all (9,j);rw[X.out]at this;exact this
    obtain⟨gr,ar,rz,rc⟩:=n8 al (k:=j) (x:=(some p,f)) (by rw[Rq,an.out];rfl);replace rc:C.cell? ⟨gr,j,none⟩=some (.slice (some ⟨p,0,none⟩) f.length f.length):=rc;have c4:C.cell? ⟨b,4,none⟩=some (.slice (some ⟨gr,0,none⟩) w.L.length w.hc.cap):=by rw[aa b4,<-ar];rfl
    clear d0 d1 df dz o2 M T F I S s Z;obtain⟨⟨d0,d1⟩,df,dz⟩:=V.out.cells o;have S:=ae b4;have B4:=ad.out.get (R.out.get a2.out (by simp)) (by simp;exact fun e=>a4.out e.symm);obtain⟨-,-,-,-,M,T,F⟩:=cQ B4;clear b4 al ar B4
    go_upto_region 30 with fail
    go_region
    all_goals
     obtain⟨W5,N⟩:∃W5,Hid (((C.setCell ⟨p,i*2,none⟩ (.string v)).setCell ⟨p,i*2+1,none⟩ (.string n)).drew=W5):=⟨_,rfl⟩
     rw[N.out];have a0:Hid (ab [p] C W5):=by show ab _ _ _;rw[<-N.out];exact(V.out.wrote o v n).2.drew
     have S5:Hid (nJ W5 (fk (fk d (8,j) (uI (some m) (f.set i (v,n)))) (9,j) (uI (some p) (f.set i (v,n))))):=by
      show nJ _ _
      refine S4.out.put _ _ (by rw[X.out];exact a0.out) ?_ (fun q hq=>Q1 (by rw[X.out];exact hq));rw[<-N.out];exact(uI _ _).ok [] _ _ (V.out.wrote o v n).1 (ab.refl [] _).drew (by simp)
     go_wp2;go_ret;exact⟨rfl,HM.out.wrote an.out Rv ac.out S5.out⟩
theorem Cn{o k:Nat}(h:T.heap[x]?=some (.cells (qK f).toArray 68 (0,0)))(c:o+k<f.length):T.cell? ⟨x,o*2+k*2,none⟩=some (.string (aE f (o+k)))/\T.cell? ⟨x,o*2+k*2+1,none⟩=some (.string (ak f (o+k))):=by
 obtain⟨a,b⟩:=v9 f (o+k) c;rw[Uc]at a b;exact⟨by rw[aa h];simpa using a,by rw[aa h];simpa using b⟩
theorem iG.piece(h:T.heap[x]?=some (.cells (qK f).toArray 68 (0,0)))(o n:Nat)(l:o+n<=f.length):kR T (some ⟨x,o*2,none⟩) ((f.drop o).take n):=by
 intro k c;rw[RQ,RT]at c;have e:∀j,j<n->((f.drop o).take n)[j]?=f[o+j]?:=fun j g=>by rw[Tj,QW g,SV]
 obtain⟨i,b⟩:=Cn h (o:=o) (k:=k) (by omega);have a:aE ((f.drop o).take n) k=aE f (o+k):=by unfold aE;rw[QQ,QQ,e k (by omega)]
 have d:ak ((f.drop o).take n) k=ak f (o+k):=by unfold ak;rw[QQ,QQ,e k (by omega)]
 exact⟨x,o*2,rfl,ae h,by rw[a];exact i,by rw[d];exact b⟩
theorem iG.src{a:Option Nat}(h:iG T a f):kR T (wD a) f:=by
 cases a with
 | none=>rw[h.nil rfl];intro k c;cases c
 | some b =>
  have:=iG.piece (h.blk b rfl) 0 f.length (by omega);rw[U0,RK,UT]at this;exact this
theorem ld.piece(h:ld f)(o n:Nat):ld ((f.drop o).take n):=by
 intro j;have a:=h (o+j);unfold aE ak at *;rw[QQ]at *;rw[Tj]
 split
 ·rw[SV];exact a
 ·exact⟨by show(0:Nat)<=_;omega,by show(0:Nat)<=_;omega⟩
def Dy(w:World)(x m:Nat)(h:Hd)(lo hi lo2 hi2:Nat)(st:Option Nat)(fs:Fs)(e:Ending)(w':World):Prop :=
 e=.returned (.bool true)/\dE w' x fs lo hi st/\(∃h',dn w' m fs h' lo2 hi2 st/\∀q,h'.blk=some q->h.blk=some q∨w.heap.size<=q)/\ab ([x]++m :: h.blk.toList) w w'
theorem DC.kept(a:DC T x I f)(k:ab yd T y0)(c:x∉yd)(g:∀q,I.blk=some q->q∉yd):DC y0 x I f:=by
 obtain⟨d,h,b,e,a⟩:=a;exact⟨d,h,b,e,a.keptS k c g⟩
theorem kR.srcF(h:T.heap[x]?=some (.cells (qK f).toArray 68 (0,0))):mV T (some ⟨x,0,none⟩) f.length f:=by
 refine⟨QR _,fun k c=>?_⟩;obtain⟨b,a⟩:=Cn h (o:=0) (k:=k) (by omega);rw[UT,SJ]at b a;exact⟨x,rfl,ae h,by simpa using b,by simpa using a⟩
theorem Cm(f e:Fs)(h:Hd)(H G p m:Nat)(v:Option Nat)(w:World)(hx:dE w D f H G v)(I:dn w i f h p m v)(hb:w.heap[g]?=some (.cells (qK e).toArray 68 (0,0)))(E:∀q,q∈D :: ie H G->q∉i :: (h.blk.toList++ie p m))(X:g≠D)(al:g≠i)(af:h.blk≠some g)(hl:o+b+l<=e.length)(hN:e.length<=1073741824)(hf:ld e) :
  Calls prog 13 #[.pointer (some ⟨D,0,none⟩),.pointer (some ⟨i,0,none⟩),.slice (some ⟨g,0,none⟩) e.length e.length,.int .i64 o,.int .i64 b,.int .i64 l] w fun r u=>Dy w D i h H G p m (mb (dy ((e.drop o).take b)) v) (jt f ((e.drop o).take b)) r u:=by
 have HX:Hid (dE w D f H G v):=hx;have a4:Hid (dn w i f h p m v):=I;have HB:=hI hb;have xz:=hx.anyS.lt;have bz:=ae hb;have HF:=(show Hid (ld e) from hf);have y:((e.drop o).take b).length=b:=by rw[RQ,RT];omega
 have a7:Hid (∀u,ab [] w u->kR u (some ⟨g,0,none⟩) e):=fun u k=>(iG.src (a:=some g) ⟨(fun l=>by cases l),fun q l=>by cases l;exact k.get hb (by simp)⟩)
 have ag:Hid (∀t s,ab [] w t->(b=0∨s=⟨g,o*2,none⟩)->kR t (some s) ((e.drop o).take b)):=fun t s k x=>by
  rcases x with l | l
  ·rw[l];intro j hj;rw[Tq]at hj;cases hj
  ·rw[l];exact iG.piece (k.get hb (by simp)) o b (by omega)
 have ax:Hid (Calls prog 29 #[.slice (some ⟨g,0,none⟩) e.length e.length] w _):=jE _ e.length e w (a7.out w (ab.refl _ _)) hN
 have a5:Hid (∀t c s,ab [] w t->(b=0∨s=⟨g,o*2,none⟩)->Calls prog 29 #[.slice (some s) b c] t fun l u=>l=.returned (.slice (some ⟨t.heap.size,0,none⟩) b b)/\u.heap[t.heap.size]?=some (.cells (qK ((e.drop o).take b)).toArray 68 (0,0))/\ab [] t u):=fun t c s k x=>by
  have:=jE (some s) c ((e.drop o).take b) t (ag.out t s k x) (by rw[y];omega);rw[y]at this;exact this
 have a0:Hid (∀F c s,ab [] w F->(b=0∨s=⟨g,o*2,none⟩)->Calls prog 30 #[.pointer (some ⟨D,0,none⟩),.slice (some s) b c] F fun l u=>l=.returned (.int .i64 (dy ((e.drop o).take b)))/\dE u D (jt f ((e.drop o).take b)) H G (mb (dy ((e.drop o).take b)) v)/\ab [D] F u):=fun F c s k x=>by
  have:=CL D f ((e.drop o).take b) (some s) c H G v F (hx.Vb k) (ag.out F s k x) (hf.piece o b);rw[y]at this;exact this
 have az:Hid (∀A B2,dn A i f h p m v->A.heap[B2]?=some (.cells (qK ((e.drop o).take b)).toArray 68 (0,0))->Calls prog 31 #[.pointer (some ⟨i,0,none⟩),.slice (some ⟨B2,0,none⟩) b b] A fun l u=>l=.returned (.int .i64 (dy ((e.drop o).take b)))/\∃N,dn u i (jt f ((e.drop o).take b)) N p m (mb (dy ((e.drop o).take b)) v)/\ab (i :: h.blk.toList) A u/\∀q,N.blk=some q->h.blk=some q∨A.heap.size<=q):=fun A B2 hr C=>by
  have:=Bs i f ((e.drop o).take b) h p m v (some ⟨B2,0,none⟩) ((e.drop o).take b).length A hr (kR.srcF C) (fun l=>by cases l) (fun s l=>by cases l;exact⟨_,rfl⟩) (fun j _=>hf.piece o b j);rw[y]at this;exact this
 have K:Hid (i<w.heap.size/\∀q,h.blk=some q->q<w.heap.size):=by
  obtain⟨on,p2,p3,p4,hr⟩:=I.anyS;exact⟨ae hr.d,fun q n=>hr.own.lt n⟩
 generalize jt f ((e.drop o).take b)=L at *;generalize mb (dy ((e.drop o).take b)) v=J at *;generalize dy ((e.drop o).take b)=r at *;generalize (e.drop o).take b=P at *;have bd:(o:Int)+(b:Int)<=(e.length:Int):=by omega
 have bg:(o:Int)+(b:Int)+(l:Int)<=(e.length:Int):=by omega
 have bk:(e.length:Int)<=1073741824:=by omega
 have HD:Hid (g≠D/\g≠i/\h.blk≠some g):=⟨X,al,af⟩;have S:=hI E;have be:Hid (∀q,h.blk=some q->q<w.heap.size):=K.out.2;clear hx I hb hf E X al af y;have M:(b=0/\l=0/\e.length=o)∨(b=0/\l=0/\¬e.length=o)∨(¬b+l=0/\¬e.length=o):=by omega
 rcases M with ⟨rfl,rfl,rfl⟩ | ⟨rfl,rfl,ar⟩ | ⟨bj,ar⟩
 all_goals
  go_enter func13,ntmps13
  go_upto_region 2 with (go_at_call 29;refine QU ax.out ?_;rintro e1 t ⟨rfl,Z,k1⟩)
  go_upto_region 3 with (go_at_call 29;refine QU (a5.out t _ _ k1 (by first | exact Q1 trivial | exact Q1 rfl | exact QV rfl)) ?_;rintro e2 F ⟨rfl,C,k2⟩)
  have B:=hI (k1.trans k2);have ao:=hI (k2.get Z (by simp));have ap:=hI C;have bc:Hid (w.heap.size<=t.heap.size):=k1.size;clear Z C k1 k2
  go_upto_region 4 with (go_at_call 30;refine QU (a0.out F _ _ B.out (by first | exact Q1 trivial | exact Q1 rfl | exact QV rfl)) ?_;rintro e3 A ⟨rfl,T,O⟩)
  have aT:Hid (dn A i f h p m v):=(a4.out.Vb B.out).kept O (fun q n I=>S.out D Rn (by rw[<-Q9.1 I];exact n));have ai:=hI (O.get ao.out (by simp;omega));have U:=hI (O.get ap.out (by have:=bc.out;simp;omega));have V:=hI (O.get (B.out.get HB.out (by simp)) (by simp;exact HD.out.1));have aS:Hid (dE A D L H G J):=T;have W:=(show Hid _ from(B.out.mono (S':=[D]) (by simp)).trans O);clear T O
  go_upto_region 5 with (go_at_call 31;refine QU (az.out A _ aT.out U.out) ?_;rintro e4 Q ⟨rfl,h4,R,k4,b4⟩)
  have a3:Hid (∃N,dn Q i L N p m J/\∀q,N.blk=some q->h.blk=some q∨w.heap.size<=q):=⟨h4,R,fun q n=>(b4 q n).elim Q1 (fun z=>QV (Q3 W.out.size z))⟩;have a2:Hid (dE Q D L H G J):=aS.out.kept k4 (fun q n I=>S.out q n (by rcases Rj.1 I with l | l;rw[l];exact Rn;exact Rm _ (RN _ l)));have ac:=hI (k4.get ai.out (by intro n;rcases Rj.1 n with l | n;have:=K.out.1;omega;have:=K.out.2 _ (aN n);omega));have Y:=hI (k4.get V.out (by intro n;rcases Rj.1 n with l | n;exact HD.out.2.1 l;exact HD.out.2.2 (aN n)));have an:Hid (ab ([D]++i :: h.blk.toList) w Q):=(W.out.mono (S':=[D]++i :: h.blk.toList) (fun q n _=>RN _ n)).trans (k4.mono (fun q n _=>Se _ n));have a1:=hI (nC (some ⟨g,0,none⟩) (some ⟨w.heap.size,0,none⟩) e.length e.length e Q (iG.src (a:=some g) ⟨(fun l=>by cases l),fun q l=>by cases l;exact Y.out⟩) (iG.src (a:=some w.heap.size) ⟨(fun l=>by cases l),fun q l=>by cases l;exact ac.out⟩) (by omega));clear R k4 b4;go_wp2_with (go_at_call 26;refine QU a1.out ?_;rintro e5 w5 ⟨rfl,n5,bf⟩);go_ret;have k5:ab [] Q (Q.drewN n5):=(ab.refl [] _).drewN n5;obtain⟨N,a6,ba⟩:=a3.out;exact⟨rfl,a2.out.Vb k5,⟨N,a6.Vb k5,ba⟩,an.out.trans (k5.mono (by simp))⟩
theorem Ey(L:dE H D z6 g o y2)(s:dn H i z6 zb b l y2)(p:∀q,q∈D :: ie g o->q∉i :: (zb.blk.toList++ie b l)) :
  Calls prog 13 #[.pointer (some ⟨D,0,none⟩),.pointer (some ⟨i,0,none⟩),.slice none 0 0,.int .i64 0,.int .i64 0,.int .i64 0] H fun r a=>Dy H D i zb g o b l (mb (dy []) y2) (jt z6 []) r a:=by
 have HX:Hid (dE H D z6 g o y2):=L;have Z:Hid (dn H i z6 zb b l y2):=s;have xz:=L.anyS.lt;have h:Hid (∀(a:World) ao,kR a ao []):=fun a ao j hj=>by cases hj
 have G:ld []:=fun j=>⟨by show(0:Nat)<=_;omega,by show(0:Nat)<=_;omega⟩
 have HC:Hid (∀n,Calls prog 29 #[.slice none 0 0] n fun e a=>e=.returned (.slice (some ⟨n.heap.size,0,none⟩) 0 0)/\a.heap[n.heap.size]?=some (.cells (qK []).toArray 68 (0,0))/\ab [] n a):=fun n=>jE none 0 [] n (h.out _ _) (by simp)
 have U:Hid (∀w,ab [] H w->Calls prog 30 #[.pointer (some ⟨D,0,none⟩),.slice none 0 0] w fun e a=>e=.returned (.int .i64 (dy []))/\dE a D (jt z6 []) g o (mb (dy []) y2)/\ab [D] w a):=fun w k=>CL D z6 [] none 0 g o y2 w (L.Vb k) (h.out _ _) G
 have N:Hid (∀c I,dn c i z6 zb b l y2->c.heap[I]?=some (.cells (qK []).toArray 68 (0,0))->Calls prog 31 #[.pointer (some ⟨i,0,none⟩),.slice (some ⟨I,0,none⟩) 0 0] c fun e a=>e=.returned (.int .i64 (dy []))/\∃y,dn a i (jt z6 []) y b l (mb (dy []) y2)/\ab (i :: zb.blk.toList) c a/\∀q,y.blk=some q->zb.blk=some q∨c.heap.size<=q):=fun c I K m=>by
  exact Bs i z6 [] zb b l y2 (some ⟨I,0,none⟩) 0 c K (kR.srcF m) (fun e=>by cases e) (fun ad e=>by cases e;exact⟨_,rfl⟩) (fun j hj=>by cases hj)
 have ai:Hid (i<H.heap.size/\∀q,zb.blk=some q->q<H.heap.size):=by
  obtain⟨on,p2,p3,p4,K⟩:=s.anyS;exact⟨ae K.d,fun q f=>K.own.lt f⟩
 generalize jt z6 []=u at *;generalize mb (dy []) y2=v at *;generalize dy []=r at *;have B:=hI p;clear L s p G;go_enter func13,ntmps13
 go_upto_region 2 with (go_at_call 29;refine QU (HC.out H) ?_;rintro e1 n ⟨rfl,Y,S⟩)
 go_upto_region 3 with (go_at_call 29;refine QU (HC.out n) ?_;rintro e2 w ⟨rfl,m,k2⟩)
 have t:=hI (S.trans k2);have V:=hI m;have af:Hid (H.heap.size<=n.heap.size):=S.size;clear Y m S k2
 go_upto_region 4 with (go_at_call 30;refine QU (U.out w t.out) ?_;rintro e3 c ⟨rfl,C,J⟩)
 have T:Hid (dn c i z6 zb b l y2):=(Z.out.Vb t.out).kept J (fun q f s=>B.out D Rn (by rw[<-Q9.1 s];exact f));have F:=hI (J.get V.out (by have:=af.out;simp;omega));have O:Hid (dE c D u g o v):=C;have E:=(show Hid _ from(t.out.mono (S':=[D]) (by simp)).trans J);clear C J
 go_upto_region 5 with (go_at_call 31;refine QU (N.out c _ T.out F.out) ?_;rintro e4 x ⟨rfl,h4,A,P,b4⟩)
 have M:Hid (∃y,dn x i u y b l v/\∀q,y.blk=some q->zb.blk=some q∨H.heap.size<=q):=⟨h4,A,fun q f=>(b4 q f).elim Q1 (fun z=>QV (Q3 E.out.size z))⟩;have ag:Hid (dE x D u g o v):=O.out.kept P (fun q f s=>B.out q f (by rcases Rj.1 s with e | e;rw[e];exact Rn;exact Rm _ (RN _ e)));have Q:Hid (ab ([D]++i :: zb.blk.toList) H x):=(E.out.mono (S':=[D]++i :: zb.blk.toList) (fun q f _=>RN _ f)).trans (P.mono (fun q f _=>Se _ f));have X:Hid (Calls prog 26 #[.slice none 0 0,.slice (some ⟨H.heap.size,0,none⟩) 0 0] x _):=nC none (some ⟨H.heap.size,0,none⟩) 0 0 [] x (h.out _ _) (h.out _ _) (by simp);clear A P b4;go_wp2_with (go_at_call 26;refine QU X.out ?_;rintro e5 w5 ⟨rfl,n5,al⟩);go_ret;have W:ab [] x (x.drewN n5):=(ab.refl [] _).drewN n5;obtain⟨y,R,ac⟩:=M.out;exact⟨rfl,ag.out.Vb W,⟨y,R.Vb W,ac⟩,Q.out.trans (W.mono (by simp))⟩
def ON(w:World)(x m:Nat)(h:Hd)(lo hi lo2 hi2:Nat)(fs:Fs)(e:Ending)(w':World):Prop :=
 e=.returned (.bool true)/\(∃st lo1 hi1 lo3 hi3,dE w' x fs lo1 hi1 st/\nH w.heap.size lo hi lo1 hi1/\dn w' m fs h lo3 hi3 st/\nH w.heap.size lo2 hi2 lo3 hi3/\(∀q,q∈x :: ie lo1 hi1->q∉m :: (h.blk.toList++ie lo3 hi3)))/\ab ([x]++m :: h.blk.toList) w w'
theorem AN(hx:dE H D z6 g o y2)(f:dn H i z6 zb b l y2)(V:∀j,j<z6.length->(ak z6 j).size<=1024)(v:∀q,q∈D :: ie g o->q∉i :: (zb.blk.toList++ie b l)) :
  Calls prog 16 #[.pointer (some ⟨D,0,none⟩),.pointer (some ⟨i,0,none⟩),.string n] H fun e C=>ON H D i zb g o b l z6 e C:=by
 have X:z6.length<=4:=by obtain⟨on,p2,p3,p4,r⟩:=f.anyS;exact r.le
 obtain⟨⟨r,s,L,c⟩,q,h,h1,h2⟩:=KP D i z6 zb g o b l y2 n H hx X V;have H1:Hid (Calls prog 36 #[.pointer (some ⟨D,0,none⟩),.string n] H fun e C=>e=.returned (.tuple #[.agg #[.int .i64 r,.string s,.int .i64 L,.int .i64 c],.int .i64 q])/\(∃d a,dE C D z6 d a h/\nH H.heap.size g o d a)/\ab [D] H C):=h1;have H2:Hid (∀x,dn x i z6 zb b l y2->Calls prog 37 #[.pointer (some ⟨i,0,none⟩),.string n] x fun e C=>e=.returned (.tuple #[.agg #[.int .i64 r,.string s,.int .i64 L,.int .i64 c],.int .i64 q])/\(∃d a,dn C i z6 zb d a h/\nH x.heap.size b l d a)/\ab [i] x C):=h2;have al:Hid (dn H i z6 zb b l y2):=f;have A:=hI v;have U:Hid ((∀q,q∈D :: ie g o->q<H.heap.size)/\∀q,q∈i :: (zb.blk.toList++ie b l)->q<H.heap.size):=⟨hx.lt,f.lt⟩;clear h1 h2 hx f v;go_enter func16,ntmps16
 go_upto_region 2 with (go_at_call 36;refine QU H1.out ?_;rintro e1 J ⟨rfl,⟨d,a,E,n1⟩,Y⟩)
 obtain⟨m,B⟩:∃m,Hid (J.alloc (.cells #[.int .i64 r,.string s,.int .i64 L,.int .i64 c] 87)=m):=⟨_,rfl⟩
 have I:Hid (ab [] J m):=by show ab _ _ _;rw[<-B.out];exact(ab.refl [] _).alloc _
 have W:Hid (m.heap[J.heap.size]?=some (.cells #[.int .i64 r,.string s,.int .i64 L,.int .i64 c] 87 (0,0))):=by show _=_;rw[<-B.out];exact QS _ _
 have Z:Hid (dE m D z6 d a h):=E.Vb I.out;have S:Hid (nH H.heap.size g o d a):=n1;have ao:Hid (a<=J.heap.size):=E.z;have Q:Hid (ab [D] H m):=Y.trans (I.out.mono (by simp));have ac:Hid (dn m i z6 zb b l y2):=al.out.kept Q.out (fun q k f=>A.out D Rn (by rw[<-Q9.1 f];exact k));have P:Hid (J.heap.size<=m.heap.size):=I.out.size;have K:Hid (H.heap.size<=J.heap.size):=Y.size;rw[B.out];clear E Y n1
 go_upto_region 3 with (go_at_call 37;refine QU (H2.out m ac.out) ?_;rintro u x ⟨rfl,⟨p,t,M,n3⟩,k2⟩)
 obtain⟨w,F⟩:∃w,Hid (x.alloc (.cells #[.int .i64 r,.string s,.int .i64 L,.int .i64 c] 87)=w):=⟨_,rfl⟩
 have N:Hid (ab [] x w):=by show ab _ _ _;rw[<-F.out];exact(ab.refl [] _).alloc _
 have O:w.heap[x.heap.size]?=some (.cells #[.int .i64 r,.string s,.int .i64 L,.int .i64 c] 87 (0,0)):=by rw[<-F.out];exact QS _ _
 have G:Hid (ab [i] m w):=k2.trans (N.out.mono (by simp))
 have T:Hid (∀q,q∈D :: ie d a->q∈D :: ie g o∨(H.heap.size<=q/\q<J.heap.size)):=fun q k=>by
  rcases Rj.1 k with e | e
  ·exact Q1 (by rw[e];exact Rn)
  ·rcases S.out.mem e with u | u
   ·exact Q1 (Rm _ u)
   ·exact QV ⟨u,QX (ng.1 e).2 ao.out⟩
 have ai:Hid (dE w D z6 d a h):=Z.out.kept G.out (fun q k f=>by
  rw[Q9.1 f]at k
  rcases T.out i k with e | e
  ·exact A.out i e Rn
  ·have:=U.out.2 i Rn;omega)
 have ag:Hid (dn w i z6 zb p t h):=M.Vb N.out
 have an:Hid (nH H.heap.size b l p t):=by
  rcases n3 with e | e
  ·exact Q1 e
  ·exact QV (Q3 (Q3 K.out P.out) e)
 have ad:Hid (∀q,q∈D :: ie d a->q∉i :: (zb.blk.toList++ie p t)):=fun q k f=>by
  have R:∀q,q∈i :: (zb.blk.toList++ie p t)->q∈i :: (zb.blk.toList++ie b l)∨m.heap.size<=q:=fun q f=>by
   rcases Rj.1 f with e | e
   ·exact Q1 (by rw[e];exact Rn)
   ·rcases Rr.1 e with e | e
    ·exact Q1 (Rm _ (RN _ e))
    ·rcases nH.mem (z:=m.heap.size) (lo:=b) (hi:=l) n3 e with e | e
     ·exact Q1 (Rm _ (Se _ e))
     ·exact QV e
  have z1:=K.out;have z2:=P.out
  rcases T.out q k with e | e
  ·rcases R q f with u | u
   ·exact A.out q e u
   ·have:=U.out.1 q e;omega
  ·rcases R q f with u | u
   ·have:=U.out.2 q u;omega
   ·omega
 have y:=G.out.get W.out (by have:=U.out.2 i Rn;have:=K.out;simp;omega);have af:Hid (ab ([D]++i :: zb.blk.toList) H w):=(Q.out.mono (fun q k _=>RN _ k)).trans (G.out.mono (fun q k _=>Se _ (by rw[Q9.1 k];exact Rn)));rw[F.out];clear M k2 n3;obtain⟨⟨a0,a1,a2,a3⟩,-,az⟩:=mz y;obtain⟨⟨b0,b1,b2,b3⟩,-,bz⟩:=mz O;clear y O;go_wp2;go_ret;exact⟨rfl,⟨h,d,a,p,t,ai.out,S.out,ag.out,an.out,ad.out⟩,af.out⟩
theorem zc(o:aw T I (lB x yd)){k x:Nat}(b:yd[k]?=some x):∃g,I.ao=some ⟨g,0,none⟩/\g<T.heap.size/\T.cell? ⟨g,k,none⟩=some (NY x):=by
 have f:=(Q8.1 b).1
 rcases o.Vm with ⟨_,c,_⟩ | ⟨g,e,a,d,h,-⟩
 ·have c:yd.length=0:=c
  omega
 ·exact⟨g,a,ae d,o.cell a k (NY x) (by show(yd.map NY)[k]?=_;rw[Rq,b];rfl)⟩
theorem KU(h:cJ yf ya=0):ya.size<=1024:=by
 unfold cJ at h
 split at h
 ·cases h
 ·split at h
  ·cases h
  ·omega
theorem Pq(h:zw f)(n d:ByteArray):zw (fc f n d).2:=by
 unfold fc
 split
 ·exact h
 ·next c =>
  have b:=KU (Decidable.not_not.1 c)
  split
  ·intro j a
   rw[Rv]at a;have:=h j a;unfold ak at *;rw[QQ]at *;rw[RU]
   split
   ·split
    ·exact b
    ·show(0:Nat)<=_;omega
   ·exact this
  ·split
   ·exact h
   ·intro j a
    rw[Q0]at a;replace a:j<f.length+1:=a;unfold ak;rw[QQ]
    by_cases e:j<f.length
    ·have:=h j e
     unfold ak at this;rw[QQ]at this;rw[Q7 e];exact this
    ·rw[Q5 (by omega),show j-f.length=0 by omega];exact b
theorem LF(h:zw f)(a:Fs):zw (jt f a):=by
 unfold jt
 split
 ·next e=>exact(NL e).2
 ·exact h
theorem bZ.both{g h m:Nat}(b:bZ T x N S M)(u:S.V[a]?=some (z0,z4,f))(z:N (6,a)=O6 z0 f y3 y4 zt)(C:N (7,a)=O4 z4 I f y8 y9 zt)(P:dE y0 z0 z3 y7 g y1)(E:dn y0 z4 z3 y5 h m y1)(F:nH T.heap.size y3 y4 y7 g)(O:nH T.heap.size y8 y9 h m)(J:∀q,y5.blk=some q->I.blk=some q∨T.heap.size<=q)(H:∀q,q∈z0 :: ie y7 g->q∉z4 :: (y5.blk.toList++ie h m))(k:ab ([z0]++z4 :: I.blk.toList) T y0)(t:zw z3):∃B A,bZ y0 x B A (M+1)/\rh N S B A:=by
 have s:=b.sep.put2 (6,a) (7,a) (bn (by decide)) (O6 z0 z3 y7 g y1) (O4 z4 y5 z3 h m y1) (by
  rw[z,C];refine k.mono (fun q o _=>?_)
  rcases Rr.1 o with e | e
  ·exact RN _ (by rw[Q9.1 e];exact Rn)
  ·refine Se _ ?_
   rcases Rj.1 e with e | e
   ·rw[e];exact Rn
   ·exact Rm _ (RN _ e)) P E (fun q o=>by
  rw[z]
  rcases Rj.1 o with e | e
  ·exact Q1 (by rw[e];exact Rn)
  ·rcases F.mem e with c | c
   ·exact Q1 (Rm _ c)
   ·exact QV c) (fun q o=>by
  rw[C]
  rcases Rj.1 o with e | e
  ·exact Q1 (by rw[e];exact Rn)
  ·rcases Rr.1 e with e | e
   ·rcases J q (aN e) with c | c
    ·exact Q1 (Rm _ (RN _ (by rw[c];simp)))
    ·exact QV c
   ·rcases O.mem e with c | c
    ·exact Q1 (Rm _ (Se _ c))
    ·exact QV c) H
 have D:∀p:Nat×Nat×Fs->Nat,p (z0,z4,z3)=p (z0,z4,f)->(S.V.set a (z0,z4,z3)).map p=S.V.map p:=fun p t=>by
  rw[Tn,t]
  apply Sq
  intro j;rw[RU]
  by_cases w:a=j
  ·subst w
   have:=(Q8.1 u).1;rw[QW rfl,Rq,u];simp[this]
  ·rw[QT w]
 refine⟨_,{ S with V:=S.V.set a (z0,z4,z3) },⟨s,?_,?_,?_,?_,?_,?_,?_,?_,?_,?_,?_⟩,?_⟩
 ·rw[aq _ _ (bn (by decide)),aq _ _ (bn (by decide)),b.w0];unfold Mc.cells;rw[Rv]
 ·rw[aq _ _ (bn (by decide)),aq _ _ (bn (by decide)),D _ rfl];exact b.x
 ·rw[aq _ _ (bn (by decide)),aq _ _ (bn (by decide)),D _ rfl];exact b.m
 ·simp only[fk];exact b.r
 ·simp only[fk];exact b.ls
 ·simp only[fk];exact b.lw
 ·intro j y n i d
  replace d:(S.V.set a (z0,z4,z3))[j]?=some (y,n,i):=d;rw[RU]at d;rw[aq _ _ (bn (by decide))]
  by_cases e:a=j
  ·subst e
   rw[QW rfl,QW (Q8.1 u).1]at d
   cases d
   rw[bJ,bJ];exact⟨⟨_,_,_,_,_,_,rfl,rfl⟩,t⟩
  ·rw[QT e]at d
   rw[aq _ _ (rC (Ne.symm e)),aq _ _ (rC (Ne.symm e)),aq _ _ (bn (by decide))];exact b.v j y n i d
 ·intro j y n i d
  simp only[fk];exact b.more.l j y n i d
 ·exact b.fit
 ·obtain⟨L,K,G⟩:=b.more.len
  exact⟨by show(S.V.set a (z0,z4,z3)).length<=_;rw[Rv];exact L,K,G⟩
 ·exact b.rng
 ·exact⟨fun j a d=>by(repeat rw[oY (by decide) d]),rfl,rfl⟩
theorem iy(h:bZ H b d w l)(c:∀W,bZ W b d w l->Calls prog 11 #[.pointer (some ⟨b,0,none⟩),.agg #[.int .i64 y6,.int .i64 y,.int .i64 k,.int .i64 L,.string v,.string n]] W fun e a=>iB b d w l true e a) :
  Calls prog 9 #[.pointer (some ⟨b,0,none⟩),.agg #[.int .i64 y6,.int .i64 y,.int .i64 k,.int .i64 L,.string v,.string n]] H fun e a=>iB b d w l true e a:=by
 obtain⟨W,g⟩:∃W,Hid (H.alloc (.cells #[.int .i64 y6,.int .i64 y,.int .i64 k,.int .i64 L,.string v,.string n] 28)=W):=⟨_,rfl⟩
 obtain⟨i,f,j,-⟩:=h.boxed y6 y k L v n W g.out;obtain⟨u,x,p,t,r,z,s⟩:=cQ f;have o:=hI (c W i);clear h i f c;go_enter func9,ntmps9
 go_upto_region 1 with fail
 rw[g.out];go_wp2_with (go_at_call 11;refine QU o.out ?_;rintro e q ⟨rfl,m⟩);go_ret;exact⟨rfl,m⟩
structure gx(W:World)(b B:Nat)(I:Nat×Nat->It)(M:Mc)(N:Nat)(k A C D:Int)(s t:ByteArray):Prop where
 m:bZ W b I M N
 o:W.heap[B]?=some (.cells #[.int .i64 k,.int .i64 A,.int .i64 C,.int .i64 D,.string s,.string t] 28 (0,0))
theorem gx.Vb{k A C D:Int}(b:gx T x M N S a k A C D yf ya)(h:ab [] T y0):gx y0 x M N S a k A C D yf ya:=⟨b.m.Vb h,h.get b.o (by simp)⟩
theorem JT(h:bZ H b d w l)(j:(8<=y6/\y6<=14)∨19<=y6)(t:w.V.length=0) :
  Calls prog 9 #[.pointer (some ⟨b,0,none⟩),.agg #[.int .i64 y6,.int .i64 y,.int .i64 k,.int .i64 L,.string v,.string n]] H fun e m=>iB b d w l true e m:=by
 obtain⟨W,i⟩:∃W,Hid (H.alloc (.cells #[.int .i64 y6,.int .i64 y,.int .i64 k,.int .i64 L,.string v,.string n] 28)=W):=⟨_,rfl⟩
 obtain⟨c,f,o,-⟩:=h.boxed y6 y k L v n W i.out;obtain⟨C,D,u,B,z,E,A⟩:=cQ f;have r:=hI (lq b l d w y6 y k L v n W c j);have s:Hid (bZ W b d w l):=c;clear h c f j;go_enter func9,ntmps9
 go_upto_region 1 with fail
 rw[i.out]
 go_upto_region 2 with (go_at_call 11;refine QU r.out ?_;rintro e g ⟨rfl,q⟩)
 have a:Hid (bZ g b d w l):=s.out.Vb q;have p:g.cell? ⟨b,0,none⟩=some (.slice w.hx.ao w.V.length w.hx.cap):=by rw[aa a.out.blk];rfl
 rw[t]at p;have x:=ae a.out.blk;go_wp2;go_ret;exact⟨rfl,_,_,a.out.more,rh.refl _ _⟩
theorem Gh(c:∀q,q∈M :: ie z0 z4->q∉a :: (I.blk.toList++ie y3 y4))(f:∀q,q∈M :: ie z0 z4->q<x)(h:∀q,y5.blk=some q->I.blk=some q∨x<=q):∀q,q∈M :: ie z0 z4->q∉a :: (y5.blk.toList++ie y3 y4):=fun q b g=>by
 rcases Rj.1 g with e | e
 ·exact c q b (by rw[e];exact Rn)
 ·rcases Rr.1 e with e | e
  ·rcases h q (aN e) with d | d
   ·exact c q b (Rm _ (RN _ (by rw[d];simp)))
   ·have:=f q b;omega
  ·exact c q b (Rm _ (Se _ e))
structure pb(w:World)(I:Nat×Nat->It)(M:Mc)(i x m:Nat)(fs:Fs)(h:Hd)(lo hi lo2 hi2:Nat)(st:Option Nat):Prop where
 v:M.V[i]?=some (x,m,fs)
 i6:I (6,i)=O6 x fs lo hi st
 i7:I (7,i)=O4 m h fs lo2 hi2 st
 ok:zw fs
 p:dE w x fs lo hi st
 d:dn w m fs h lo2 hi2 st
 far:∀q,q∈x :: ie lo hi->q∉m :: (h.blk.toList++ie lo2 hi2)
theorem pb.le(b:pb T N S x M a f I z0 z4 y3 y4 zt):f.length<=4:=by
 obtain⟨e,h,c,g,r⟩:=b.d.anyS;exact r.le
theorem pb.st(b:pb T N S x M a f I z0 z4 y3 y4 zt)(k:Nat)(e:zt=some k):k<f.length/\((fE f k).1==0)=true:=by
 subst e;exact b.p.s.1
theorem pb.Vb(b:pb T N S x M a f I z0 z4 y3 y4 zt)(k:ab [] T y0):pb y0 N S x M a f I z0 z4 y3 y4 zt:={ b with p:=b.p.Vb k,d:=b.d.Vb k }
theorem bZ.ver(e:bZ T x N S M)(g:a<S.V.length) :
  ∃b m j h p g d c n f i,pb T N S a b m j h p g d c n/\(S.hx.ao=some ⟨f,0,none⟩/\f<T.heap.size/\T.cell? ⟨f,a,none⟩=some (.pointer (some ⟨b,0,none⟩)))/\(S.hm.ao=some ⟨i,0,none⟩/\i<T.heap.size/\T.cell? ⟨i,a,none⟩=some (.pointer (some ⟨m,0,none⟩))):=by
 obtain⟨⟨b,m,j⟩,l⟩:∃y,S.V[a]?=some y:=⟨S.V[a],QP g⟩
 obtain⟨⟨n,h,p,g,d,c,o,s⟩,r⟩:=e.v a b m j l;obtain⟨f,F,z,D⟩:=zc e.ownX (k:=a) (x:=b) (by rw[Rq,l];rfl);obtain⟨i,B,A,E⟩:=zc e.ownM (k:=a) (x:=m) (by rw[Rq,l];rfl);have u:=e.sep.all (6,a);have t:=e.sep.all (7,a);rw[o]at u;rw[s]at t;exact⟨b,m,j,h,p,g,d,c,n,f,i,⟨l,o,s,r,u,t,fun q C w=>e.sep.far (6,a) (7,a) (bn (by decide)) q (by rw[o];exact C) (by rw[s];exact w)⟩,⟨F,z,D⟩,B,A,E⟩
theorem Pu(h:bZ H b d w l)(hV:w.V.length≠0)(hA:qB y)(hN:l<=1073741824) :
  Calls prog 9 #[.pointer (some ⟨b,0,none⟩),.agg #[.int .i64 10,.int .i64 y,.int .i64 k,.int .i64 L,.string v,.string n]] H fun e E=>iB b d w l true e E:=by
 obtain⟨W,P⟩:∃W,Hid (H.alloc (.cells #[.int .i64 10,.int .i64 y,.int .i64 k,.int .i64 L,.string v,.string n] 28)=W):=⟨_,rfl⟩
 obtain⟨J,G,ac,-⟩:=h.boxed 10 y k L v n W P.out;obtain⟨A,B,M,S,R,U,z⟩:=cQ G;have HL:=hI (lq b l d w 10 y k L v n W J (by omega));have HS:Hid (gx W b H.heap.size d w l 10 y k L v n):=⟨J,G⟩;have ai:=h.len.1;have t:Hid (∀u,Calls prog 12 #[.int .i64 y,.int .i64 w.V.length] u fun e E=>e=.returned (.int .i64 (eG y w.V.length:Nat))/\E=u):=fun u=>eQ y w.V.length u hA ⟨by omega,by omega⟩
 have r:=fY y w.V.length (by omega);obtain⟨i,Hi⟩:∃i,Hid (eG y w.V.length=i):=⟨_,rfl⟩
 rw[Hi.out]at t r;have ag:((w.V.length:Int)==0)=false:=Rh.2 (by omega);have ad:(i:Int)<(w.V.length:Int):=by omega
 clear h J G;go_enter func9,ntmps9
 go_upto_region 1 with fail
 rw[P.out]
 go_upto_region 2 with (go_at_call 11;refine QU HL.out ?_;rintro e I ⟨rfl,N⟩)
 have f:Hid (gx I b H.heap.size d w l 10 y k L v n):=HS.out.Vb N;clear A B M S R U z N;obtain⟨A,B,-⟩:=cQ f.out.o;have z:=ae f.out.o;have F:I.cell? ⟨b,0,none⟩=some (.slice w.hx.ao w.V.length w.hx.cap):=by rw[aa f.out.m.blk];rfl
 have Q:=ae f.out.m.blk
 go_upto_region 4 with fail
 go_quiet ((go_at_call 12;exact Rd (t.out _)))
 go_upto_region 5 with fail
 obtain⟨j,s⟩:∃j,Hid (I.drewN nq=j):=⟨_,rfl⟩
 rw[s.out];have a:Hid (gx j b H.heap.size d w l 10 y k L v n):=f.out.Vb (by rw[<-s.out];exact(ab.refl [] _).drewN nq);clear A B z F Q;obtain⟨A,B,M,S,R,U,z⟩:=cQ a.out.o;obtain⟨x,m,fs,hd,lo,hi,K,C,Z,g1,g2,c,⟨T,z1,d1⟩,O,z2,d2⟩:=a.out.m.ver r;have F:j.cell? ⟨b,0,none⟩=some (.slice w.hx.ao w.V.length w.hx.cap):=by rw[aa a.out.m.blk];rfl
 have c1:j.cell? ⟨b,1,none⟩=some (.slice w.hm.ao w.V.length w.hm.cap):=by rw[aa a.out.m.blk];rfl
 rw[T]at F;rw[O]at c1;have Q:=ae a.out.m.blk;have D:=hI (AN x m fs hd lo hi K C Z v j c.p c.d c.ok c.far);have g:=hI c;clear c T O;go_wp2_with (go_at_call 16;refine QU D.out ?_;rintro e w3 ⟨rfl,⟨af,l1,u1,l3,u3,q1,X,q3,Y,q5⟩,q6⟩);go_ret;exact⟨rfl,a.out.m.both g.out.v g.out.i6 g.out.i7 q1 q3 X Y (fun q hq=>Q1 hq) q5 q6 g.out.ok⟩
theorem Qk(h:bZ H b d w l)(hV:w.V.length≠0)(hA:qB y)(hN:l<=1073741824)(hs:v.size<=1073741824)(ht:n.size<=1073741824) :
  Calls prog 9 #[.pointer (some ⟨b,0,none⟩),.agg #[.int .i64 9,.int .i64 y,.int .i64 k,.int .i64 L,.string v,.string n]] H fun e w'=>iB b d w l true e w':=by
 obtain⟨W,HW⟩:∃W,Hid (H.alloc (.cells #[.int .i64 9,.int .i64 y,.int .i64 k,.int .i64 L,.string v,.string n] 28)=W):=⟨_,rfl⟩
 obtain⟨hM,hB,ar,-⟩:=h.boxed 9 y k L v n W HW.out;obtain⟨O,G,o2,o3,S,X,D⟩:=cQ hB;have HL:=hI (lq b l d w 9 y k L v n W hM (by omega));have HS:Hid (gx W b H.heap.size d w l 9 y k L v n):=⟨hM,hB⟩;have az:=h.len.1;have R:Hid (∀U,Calls prog 12 #[.int .i64 y,.int .i64 w.V.length] U fun e w'=>e=.returned (.int .i64 (eG y w.V.length:Nat))/\w'=U):=fun U=>eQ y w.V.length U hA ⟨by omega,by omega⟩
 have M:=fY y w.V.length (by omega);obtain⟨i,Hi⟩:∃i,Hid (eG y w.V.length=i):=⟨_,rfl⟩
 rw[Hi.out]at R M;have aS:((w.V.length:Int)==0)=false:=Rh.2 (by omega);have ax:(i:Int)<(w.V.length:Int):=by omega
 have ac:Hid (bZ H b d w l):=h;clear h hM hB;go_enter func9,ntmps9
 go_upto_region 1 with fail
 rw[HW.out]
 go_upto_region 2 with (go_at_call 11;refine QU HL.out ?_;rintro e w1 ⟨rfl,k1⟩)
 have g:Hid (gx w1 b H.heap.size d w l 9 y k L v n):=HS.out.Vb k1;clear O G o2 o3 S X D k1;obtain⟨O,G,-⟩:=cQ g.out.o;have D:=ae g.out.o;have T:w1.cell? ⟨b,0,none⟩=some (.slice w.hx.ao w.V.length w.hx.cap):=by rw[aa g.out.m.blk];rfl
 have bz:=ae g.out.m.blk
 go_upto_region 4 with fail
 go_quiet ((go_at_call 12;exact Rd (R.out _)))
 go_upto_region 5 with fail
 obtain⟨A,Q⟩:∃A,Hid (w1.drewN nq=A):=⟨_,rfl⟩
 rw[Q.out];have c:Hid (gx A b H.heap.size d w l 9 y k L v n):=g.out.Vb (by rw[<-Q.out];exact(ab.refl [] _).drewN nq);clear O G D T bz;obtain⟨O,G,o2,o3,S,X,D⟩:=cQ c.out.o;obtain⟨x,m,B,C,lo,hi,t,s,K,g1,g2,j,⟨e1,z1,d1⟩,e2,z2,d2⟩:=c.out.m.ver M;have T:A.cell? ⟨b,0,none⟩=some (.slice w.hx.ao w.V.length w.hx.cap):=by rw[aa c.out.m.blk];rfl
 have c1:A.cell? ⟨b,1,none⟩=some (.slice w.hm.ao w.V.length w.hm.cap):=by rw[aa c.out.m.blk];rfl
 rw[e1]at T;rw[e2]at c1;have bz:=ae c.out.m.blk;have N:=hI (NW x v n B lo hi K A j.p hs (by omega));have F:Hid (∀u,dn u m B C t s K->Calls prog 15 #[.pointer (some ⟨m,0,none⟩),.string v,.string n] u _):=fun u hr=>Ni m v n B C t s K u hr hs (by omega)
 have I:Hid (zw (fc B v n).2):=Pq j.ok v n;have a:=hI j;have an:=hI c.out.o
 have ag:Hid (x≠H.heap.size):=fun e=>by
  have p:=ac.out.sep.all (6,i);rw[j.i6]at p;have:=dE.lt p x Rn;omega
 generalize mb (fc B v n).1 K=al at *;generalize fc B v n=pf at *;obtain⟨r,ap⟩:=pf;simp only at N F I;clear j e1 e2
 go_upto_region 18 with (go_at_call 14;refine QU N.out ?_;rintro e u ⟨rfl,Y,Z⟩)
 have af:Hid (dn u m B C t s K):=a.out.d.kept Z (fun q f E=>a.out.far x Rn (by rw[<-Q9.1 E];exact f));have ad:Hid (dE u x ap lo hi al):=Y;have J:=hI Z;have B3:=Z.get an.out (by simp;exact fun e=>ag.out e.symm);clear O G o2 o3 S X D T c1 bz z1 d1 z2 d2 Y Z;obtain⟨-,-,-,-,S,X,D⟩:=cQ B3;clear B3;go_wp2_with (go_at_call 15;refine QU (F.out u af.out) ?_;rintro e w4 ⟨rfl,h',Y,q4,q5⟩);go_ret;have P:∀q,h'.blk=some q->C.blk=some q∨A.heap.size<=q:=fun q f=>(q5 q f).elim Q1 (fun z=>QV (Q3 J.out.size z))
 have ai:∀q,q∈m :: C.blk.toList->q∈m :: (C.blk.toList++ie t s):=fun q f=>by
  rcases Rj.1 f with e | e
  ·rw[e];exact Rn
  ·exact Rm _ (RN _ e)
 refine⟨rfl,c.out.m.both a.out.v a.out.i6 a.out.i7 (ad.out.kept q4 (fun q f E=>a.out.far q f (ai q E))) Y (Q1 ⟨rfl,rfl⟩) (Q1 ⟨rfl,rfl⟩) P (fun q f E=>?_) ((J.out.mono (fun q f _=>RN _ f)).trans (q4.mono (fun q f _=>Se _ f))) I.out⟩;exact Gh a.out.far (a.out.p.lt) P q f E
theorem bZ.loads(i:bZ T x N S M)(A:M<=1073741824){o n e:Nat}{q:Option Nat}(V:pb T N S a z4 y3 f I y4 y8 y9 y7 zt)(w:S.L[z0]?=some (y1,q,z3))(h:o+n+e<=z3.length) :
  Calls prog 13 #[.pointer (some ⟨z4,0,none⟩),.pointer (some ⟨y3,0,none⟩),.slice (wD y1) z3.length z3.length,.int .i64 o,.int .i64 n,.int .i64 e] T fun r t=>Dy T z4 y3 I y4 y8 y9 y7 (mb (dy ((z3.drop o).take n)) zt) (jt f ((z3.drop o).take n)) r t:=by
 obtain⟨j,-,g,y⟩:=i.l z0 y1 q z3 w;have k:=i.sep.all (8,z0);rw[j]at k
 cases y1 with
 | none =>
  have c:=iG.nil k rfl;subst c;have z:o=0:=by simp at h;omega
  have v:n=0:=by simp at h;omega
  have u:e=0:=by simp at h;omega
  subst z v u;exact Ey z4 y3 f I y4 y8 y9 y7 zt T V.p V.d V.far
 | some b =>
  have s:b∉z4 :: ie y4 y8:=by have:=i.sep.far (8,z0) (6,a) (bn (by decide)) b (by rw[j];exact Q9.2 rfl);rw[V.i6]at this;exact this
  have m:b∉y3 :: (I.blk.toList++ie y9 y7):=by have:=i.sep.far (8,z0) (7,a) (bn (by decide)) b (by rw[j];exact Q9.2 rfl);rw[V.i7]at this;exact this
  exact Cm z4 y3 b o n e f z3 I y4 y8 y9 y7 zt T V.p V.d (iG.blk k b rfl) V.far (fun e=>s (by rw[e];exact Rn)) (fun e=>m (by rw[e];exact Rn)) (fun e=>m (Rm _ (RN _ (by rw[e];simp)))) h (by omega) g
theorem Qj(h:bZ H b d w l)(hV:w.V.length≠0)(hA:qB y)(hC:qB k)(hN:l<=1073741824) :
  Calls prog 9 #[.pointer (some ⟨b,0,none⟩),.agg #[.int .i64 8,.int .i64 y,.int .i64 k,.int .i64 L,.string v,.string n]] H fun e z=>iB b d w l true e z:=by
 obtain⟨W,HW⟩:∃W,Hid (H.alloc (.cells #[.int .i64 8,.int .i64 y,.int .i64 k,.int .i64 L,.string v,.string n] 28)=W):=⟨_,rfl⟩
 obtain⟨hM,hB,ag,-⟩:=h.boxed 8 y k L v n W HW.out;obtain⟨R,J,o2,o3,o4,o5,U⟩:=cQ hB;have HL:=hI (lq b l d w 8 y k L v n W hM (by omega));have HS:Hid (gx W b H.heap.size d w l 8 y k L v n):=⟨hM,hB⟩;have ar:=h.len.1;have X:Hid (∀f,Calls prog 12 #[.int .i64 y,.int .i64 w.V.length] f fun e z=>e=.returned (.int .i64 (eG y w.V.length:Nat))/\z=f):=fun f=>eQ y w.V.length f hA ⟨by omega,by omega⟩
 have P:=fY y w.V.length (by omega);obtain⟨i,Hi⟩:∃i,Hid (eG y w.V.length=i):=⟨_,rfl⟩
 rw[Hi.out]at X P;have az:((w.V.length:Int)==0)=false:=Rh.2 (by omega);have al:(i:Int)<(w.V.length:Int):=by omega
 clear h hM hB;go_enter func9,ntmps9
 go_upto_region 1 with fail
 rw[HW.out]
 go_upto_region 2 with (go_at_call 11;refine QU HL.out ?_;rintro e w1 ⟨rfl,k1⟩)
 have A:Hid (gx w1 b H.heap.size d w l 8 y k L v n):=HS.out.Vb k1;clear R J o2 o3 o4 o5 U k1;obtain⟨R,J,-⟩:=cQ A.out.o;have U:=ae A.out.o;have Z:w1.cell? ⟨b,0,none⟩=some (.slice w.hx.ao w.V.length w.hx.cap):=by rw[aa A.out.m.blk];rfl
 have bz:=ae A.out.m.blk
 go_upto_region 4 with fail
 go_quiet ((go_at_call 12;exact Rd (X.out _)))
 go_upto_region 5 with fail
 obtain⟨C,T⟩:∃C,Hid (w1.drewN nq=C):=⟨_,rfl⟩
 rw[T.out];have c:Hid (gx C b H.heap.size d w l 8 y k L v n):=A.out.Vb (by rw[<-T.out];exact(ab.refl [] _).drewN nq);clear R J U Z bz;obtain⟨R,J,o2,o3,o4,o5,U⟩:=cQ c.out.o;obtain⟨x,m,fs,hd,lo,hi,K,G,st,g1,g2,E,⟨e1,z1,d1⟩,e2,z2,d2⟩:=c.out.m.ver P;have Z:C.cell? ⟨b,0,none⟩=some (.slice w.hx.ao w.V.length w.hx.cap):=by rw[aa c.out.m.blk];rfl
 have c1:C.cell? ⟨b,1,none⟩=some (.slice w.hm.ao w.V.length w.hm.cap):=by rw[aa c.out.m.blk];rfl
 rw[e1]at Z;rw[e2]at c1;have bz:=ae c.out.m.blk;have ac:=hI E;have c3:C.cell? ⟨b,3,none⟩=some (.slice w.hl.ao w.L.length w.hl.cap):=by rw[aa c.out.m.blk];rfl
 by_cases hL:w.L.length=0
 ·rw[hL]at c3
  clear E e1 e2;go_wp2;go_ret;exact⟨rfl,_,_,c.out.m.more,rh.refl _ _⟩
 ·have an:=c.out.m.len.2.2
  have O:Hid (∀f,Calls prog 12 #[.int .i64 k,.int .i64 w.L.length] f fun e z=>e=.returned (.int .i64 (eG k w.L.length:Nat))/\z=f):=fun f=>eQ k w.L.length f hC ⟨by omega,by omega⟩
  have Y:=fY k w.L.length (by omega);obtain⟨B,Hk⟩:∃B,Hid (eG k w.L.length=B):=⟨_,rfl⟩
  rw[Hk.out]at O Y;obtain⟨⟨la,lc,j⟩,N⟩:∃x,w.L[B]?=some x:=⟨w.L[B],QP Y⟩
  obtain⟨-,-,-,ai⟩:=c.out.m.l B la lc j N;obtain⟨gl,S,gz,gc⟩:=n8 c.out.m.ownL (k:=B) (x:=(la,j)) (by rw[Rq,N];rfl);replace gc:C.cell? ⟨gl,B,none⟩=some (.slice (wD la) j.length j.length):=gc;rw[S]at c3;have ax:(B:Int)<(w.L.length:Int):=by omega
  have af:((w.L.length:Int)==0)=false:=Rh.2 (by omega);have ap:=hI N;obtain⟨ra,rn,re⟩:=c.out.m.rng;have F:Hid (∀f,Calls prog 12 #[.int .i64 w.a,.int .i64 ((j.length:Int)+1)] f fun e z=>e=.returned (.int .i64 (eG w.a (j.length+1):Nat))/\z=f):=fun f=>eQ w.a (j.length+1) f ra ⟨by omega,by omega⟩
  have ho:=fY w.a (j.length+1) (by omega);obtain⟨o,Ho⟩:∃o,Hid (eG w.a (j.length+1)=o):=⟨_,rfl⟩
  rw[Ho.out]at F ho
  have Q:Hid (∀f,Calls prog 12 #[.int .i64 w.n,.int .i64 ((j.length:Int)-(o:Int)+1)] f fun e z=>e=.returned (.int .i64 (eG w.n (j.length-o+1):Nat))/\z=f):=fun f=>by
   rw[show(j.length:Int)-(o:Int)+1=((j.length-o+1:Nat):Int) by omega];exact eQ w.n (j.length-o+1) f rn ⟨by omega,by omega⟩
  have hn:=fY w.n (j.length-o+1) (by omega);obtain⟨u,Hn⟩:∃u,Hid (eG w.n (j.length-o+1)=u):=⟨_,rfl⟩
  rw[Hn.out]at Q hn
  have I:Hid (∀f,Calls prog 12 #[.int .i64 w.e,.int .i64 ((j.length:Int)-(o:Int)-(u:Int)+1)] f fun e z=>e=.returned (.int .i64 (eG w.e (j.length-o-u+1):Nat))/\z=f):=fun f=>by
   rw[show(j.length:Int)-(o:Int)-(u:Int)+1=((j.length-o-u+1:Nat):Int) by omega];exact eQ w.e (j.length-o-u+1) f re ⟨by omega,by omega⟩
  have he:=fY w.e (j.length-o-u+1) (by omega);obtain⟨e,He⟩:∃e,Hid (eG w.e (j.length-o-u+1)=e):=⟨_,rfl⟩
  rw[He.out]at I he;have ad:Hid (∀t,bZ t b d w l->pb t d w i x m fs hd lo hi K G st->Calls prog 13 _ t _):=fun t a V=>a.loads hN V N (o:=o) (n:=u) (e:=e) (by omega)
  clear E e1 e2 N S ra rn re
  go_upto_region 11 with fail
  go_quiet ((go_at_call 12;exact Rd (O.out _)))
  go_upto_region 12 with fail
  obtain⟨t,D⟩:∃t,Hid (C.drewN nq=t):=⟨_,rfl⟩
  rw[D.out];have s:Hid (gx t b H.heap.size d w l 8 y k L v n):=c.out.Vb (by rw[<-D.out];exact(ab.refl [] _).drewN nq);clear R J o2 o3 o4 o5 U Z c1 c3 bz z1 d1 z2 d2 gz gc;have c5:t.cell? ⟨b,5,none⟩=some (.int .i64 w.a):=by rw[aa s.out.m.blk];rfl
  have c6:t.cell? ⟨b,6,none⟩=some (.int .i64 w.n):=by rw[aa s.out.m.blk];rfl
  have c7:t.cell? ⟨b,7,none⟩=some (.int .i64 w.e):=by rw[aa s.out.m.blk];rfl
  have bz:=ae s.out.m.blk;have g:Hid (pb t d w i x m fs hd lo hi K G st):=ac.out.Vb (by rw[<-D.out];exact(ab.refl [] _).drewN nq);have M:=hI (ad.out t s.out.m g.out)
  go_upto_region 13 with (go_at_call 12;refine QU (F.out _) ?_;rintro q w4 ⟨rfl,r⟩;rw[r];clear r)
  go_upto_region 14 with (go_at_call 12;refine QU (Q.out _) ?_;rintro q w4 ⟨rfl,r⟩;rw[r];clear r)
  go_upto_region 15 with (go_at_call 12;refine QU (I.out _) ?_;rintro q w4 ⟨rfl,r⟩;rw[r];clear r)
  go_wp2_with (go_at_call 13;refine QU M.out ?_;rintro q w4 ⟨rfl,q1,⟨h',q2,q3⟩,q4⟩);go_ret;exact⟨rfl,s.out.m.both g.out.v g.out.i6 g.out.i7 q1 q2 (Q1 ⟨rfl,rfl⟩) (Q1 ⟨rfl,rfl⟩) q3 (Gh g.out.far g.out.p.lt q3) q4 (LF g.out.ok _)⟩
end Go.Proofs.YtpddjjabfbfifaaGreat
