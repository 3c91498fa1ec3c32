import Derived.Test.YtnbhnocdhbcbcaaGreatG31
namespace Go.Proofs.YtnbhnocdhbcbcaaGreat
open Go.RowKit Tryz
open Value IntKind Ending
set_option maxHeartbeats 0
variable{v y0:World}{s y1:Hd}{H u:Fs}{y N z0:Nat}{zb:Nat×Nat->It}{d:Mc}{zt z4:Option Nat}{y3 y2:ByteArray}(T f:Nat)(L:Fs)(I:Hd)(i n b l:Nat)(z3:Option Nat)(M:Nat×Nat->It)(w:Mc)(t m z6:Int)(g D:ByteArray)(S:World)
theorem Mi:(prog.info? 33).map (fun i=>(i.zero,i.size,i.bytes))=some (some (slice none 0 0),1,24):=by kernel_rfl
theorem qO(L:List (Option Nat×Fs))(x:Option Nat×Fs):(⟨(iz L).e,(iz L).size,(iz L).n+1,(iz L).xs++[AJ x]⟩:eB)=iz (L++[x]):=by
 simp[iz]
theorem aC.srcO(o:aC v s (cK H)):lk v s.ao H:=by
 intro k d;obtain⟨g,e,c,a,b⟩:=o.srcFi.2 k d;exact⟨g,0,e,c,by rw[Ut];exact a,by rw[Ut];exact b⟩
theorem cd.addL{a c:Option Nat}{fs:Fs}{J:Nat×Nat->It}(h:cd v y zb d N)(q:lr fs)(o:fs.length<=N+1)(f:J=fw (fw (fw zb (8,d.L.length) (vn a fs)) (4,0) (cw s (iz (d.L.map (fun l=>(l.1,l.2.2))++[(a,fs)])))) (0,0) (rU y 42 (d.cells.set 3 (slice s.ao (d.L.length+1) s.cap))))(u:oN y0 (fw (fw (fw J (9,d.L.length) (vn c fs)) (5,0) (cw y1 (iz (d.L.map (fun l=>(l.2.1,l.2.2))++[(c,fs)])))) (0,0) (rU y 42 ((d.cells.set 3 (slice s.ao (d.L.length+1) s.cap)).set 4 (slice y1.ao (d.L.length+1) y1.cap))))) :
  ∃k n,cd y0 y k n (N+1)/\rH zb d k n:=by
 refine⟨_,{ d with hl:=s,hc:=y1,L:=d.L++[(a,c,fs)] },⟨u,?_,?_,?_,?_,?_,?_,?_,?_,?_,?_,?_⟩,?_⟩
 ·rw[bP];unfold Mc.cells;rw[R9];rfl
 ·subst f;simp only[fw];exact h.x
 ·subst f;simp only[fw];exact h.m
 ·subst f;simp only[fw];exact h.r
 ·subst f;rw[RM _ _ (bu (by decide)),RM _ _ (bu (by decide)),RM _ _ (bu (by decide)),RM _ _ (bu (by decide)),bP,SF];rfl
 ·rw[RM _ _ (bu (by decide)),bP,SF];rfl
 ·intro i x m fs b;subst f;simp only[fw];exact h.v i x m fs b
 ·intro i x m g b;rw[RM _ _ (bu (by decide)),RM _ _ (bu (by decide)),RM _ _ (bu (by decide)),RM _ _ (bu (by decide)),RM _ _ (bu (by decide))];replace b:(d.L++[(a,c,fs)])[i]?=some (x,m,g):=b;subst f;rw[RM _ _ (bu (by decide)),RM _ _ (bu (by decide))];by_cases e:i<d.L.length
  ·rw[Si e]at b;rw[RM _ _ (rV (by omega)),RM _ _ (rV (by omega)),RM _ _ (bu (by decide)),RM _ _ (bu (by decide)),RM _ _ (bu (by decide))];exact h.more.l i x m g b
  ·have p:i=d.L.length:=by
    have:=(R8.1 b).1;rw[R9]at this;have:i<d.L.length+1:=this;omega
   subst p;rw[Sf (RV _),Td]at b;cases b
   rw[bP,bP];exact⟨rfl,rfl,q,o⟩
 ·exact h.fit
 ·refine⟨h.more.len.1,h.more.len.2.1,?_⟩;have:=h.len.2.2
  show(d.L++[(a,c,fs)]).length<=_
  rw[R9];show _+1<=_;omega
 ·exact h.rng
 ·subst f;exact⟨fun j i t=>by(repeat rw[pm (by decide) t]),rfl,rfl⟩
theorem oN.rowAt{c:List Value}{k:Nat×Nat}{r:eB}(a:oN v zb)(b:zb (0,0)=rU y N c)(d:k≠(0,0))(e:zb k=cw s r):v.heap[y]?=some (.cells c.toArray N)/\aC v s r/\y∉s.blk.toList:=by
 refine⟨?_,?_,fun f=>a.far (0,0) k (Ne.symm d) y (by rw[b];exact Se.2 rfl) (by rw[e];exact f)⟩
 ·have:=a.all (0,0);rw[b]at this;exact this
 ·have:=a.all k;rw[e]at this;exact this
set_option maxRecDepth 100000
theorem Qk(h:cd S b M w l)(hN:l<=1073741824) :
  Calls prog 12 #[pointer (some ⟨b,0,none⟩),agg #[int i64 5,int i64 t,int i64 m,int i64 z6,string g,string D]] S fun e w'=>iU b M w l true e w':=by
 obtain⟨W,HW⟩:∃W,Hid (S.alloc (.cells #[int i64 5,int i64 t,int i64 m,int i64 z6,string g,string D] 28)=W):=⟨_,rfl⟩
 obtain⟨x,hB,ag,-⟩:=h.boxed 5 t m z6 g D W HW.out;obtain⟨o0,-⟩:=dV hB;have oz:=ae hB;obtain⟨iX,T,p,r,s⟩:=Sr Mi;have HM:Hid (cd W b M w l):=x;have af:Hid ((iz (w.L.map (fun d=>(d.1,d.2.2)))).n<=4294967296):=by show(w.L.map _).length<=_;rw[Sn];have:=h.len.2.2;omega
 have ad:Hid ((iz (w.L.map (fun d=>(d.2.1,d.2.2)))).n<=4294967296):=by show(w.L.map _).length<=_;rw[Sn];have:=h.len.2.2;omega
 have E:Hid ((iz (w.L.map (fun d=>(d.1,d.2.2)))).n=w.L.length):=Sn _;have A:Hid ((iz (w.L.map (fun d=>(d.2.1,d.2.2)))).n=w.L.length):=Sn _;have Z:Hid (oN W (fw M (8,w.L.length) (vn none []))):=x.sep.put _ _ (aa.refl _ _) ⟨fun _=>rfl,fun b e=>by cases e⟩ (fun q hq=>by cases hq);obtain⟨J,z⟩:∃J,Hid (J=fw M (8,w.L.length) (vn none [])):=⟨_,rfl⟩
 rw[<-z.out]at Z;have K:Hid (J (0,0)=rU b 42 w.cells):=by show _=_;rw[z.out,RM _ _ (bu (by decide))];exact x.w0
 have N:Hid (J (4,0)=cw w.hl (iz (w.L.map (fun d=>(d.1,d.2.2))))):=by show _=_;rw[z.out,RM _ _ (bu (by decide))];exact x.ls
 have ac:Hid (J (5,0)=cw w.hc (iz (w.L.map (fun d=>(d.2.1,d.2.2))))):=by show _=_;rw[z.out,RM _ _ (bu (by decide))];exact x.lw
 obtain⟨V,P,k⟩:=Z.out.rowAt K.out (bu (by decide)) N.out;have B:Hid (W.heap[b]?=some (.cells w.cells.toArray 42)/\b∉w.hl.blk.toList):=⟨V,k⟩;have c0:W.cell? ⟨b,3,none⟩=some (slice w.hl.ao w.L.length w.hl.cap):=by rw[aj V];rfl
 have fb:=am V;have bz:=ae V;clear h x hB V k;go_enter func12,ntmps12;go_upto_region 1 with fail
 rw[HW.out];go_upto_region 22 with (at_builtin;refine dj W rfl (.tmp 105) (.tmp 106) 34 rfl iX (slice none 0 0) 24 w.hl (iz (w.L.map (fun d=>(d.1,d.2.2)))) [AJ (none,[])] underlying34 T p r s rfl So (by rw[E.out];simp[Act.eval]) P af.out (by omega) (by simp[Act.eval]) rfl (by simp[AJ,Value.oneCell']) ?_;intro f w5 v u;rw[qO]at v;have X:=u.kept.get B.out.1 B.out.2;have f5:=am X;have c5:w5.cell? ⟨b,3,none⟩=some (slice w.hl.ao w.L.length w.hl.cap):=(by rw[aj X];rfl);have z5:=ae X)
 rw[E.out];have S5:Hid _:=(Z.out.grown K.out (bu (by decide)) N.out u v 3 (slice f.ao (w.L.length+1) f.cap));obtain⟨y,Y⟩:∃y,Hid (w5.setCell ⟨b,3,none⟩ (slice f.ao (w.L.length+1) f.cap)=y):=⟨_,rfl⟩
 rw[Y.out]at S5 ⊢;obtain⟨F,O⟩:∃F,F=fw (fw J (4,0) (cw f (iz (w.L.map (fun d=>(d.1,d.2.2))++[(none,[])])))) (0,0) (rU b 42 (w.cells.set 3 (slice f.ao (w.L.length+1) f.cap))):=⟨_,rfl⟩
 have i:Hid _:=O;clear O;rw[<-i.out]at S5;have S6:Hid (oN y (fw F (9,w.L.length) (vn none []))):=S5.out.put _ _ (aa.refl _ _) ⟨fun _=>rfl,fun b e=>by cases e⟩ (fun q hq=>by cases hq);have H:Hid (fw F (9,w.L.length) (vn none []) (0,0)=rU b 42 (w.cells.set 3 (slice f.ao (w.L.length+1) f.cap))):=by show _=_;rw[RM _ _ (bu (by decide)),i.out,bP]
 have I:Hid (fw F (9,w.L.length) (vn none []) (5,0)=cw w.hc (iz (w.L.map (fun d=>(d.2.1,d.2.2))))):=by show _=_;rw[RM _ _ (bu (by decide)),i.out,RM _ _ (bu (by decide)),RM _ _ (bu (by decide))];exact ac.out
 obtain⟨G,Q,o⟩:=S6.out.rowAt H.out (bu (by decide)) I.out;have C:Hid (y.heap[b]?=some (.cells (w.cells.set 3 (slice f.ao (w.L.length+1) f.cap)).toArray 42)/\b∉w.hc.blk.toList):=⟨G,o⟩;clear X f5 c5 z5 v u c0 fb bz P;have c1:y.cell? ⟨b,4,none⟩=some (slice w.hc.ao w.L.length w.hc.cap):=by rw[aj G];rfl
 have fb:=am G;have bz:=ae G;clear G o;go_wp2_with (at_builtin;refine dj y rfl (.tmp 115) (.tmp 116) 34 rfl iX (slice none 0 0) 24 w.hc (iz (w.L.map (fun d=>(d.2.1,d.2.2)))) [AJ (none,[])] underlying34 T p r s rfl So (by rw[A.out];simp[Act.eval]) Q ad.out (by omega) (by simp[Act.eval]) rfl (by simp[AJ,Value.oneCell']) ?_;intro h7 w7 U R;rw[qO]at U;have p7:=R.kept.get C.out.1 C.out.2;have f7:=am p7;have c7:w7.cell? ⟨b,4,none⟩=some (slice w.hc.ao w.L.length w.hc.cap):=(by rw[aj p7];rfl);have z7:=ae p7;rw[A.out]);go_ret;have S7:=S6.out.grown H.out (bu (by decide)) I.out R U 4 (slice h7.ao (w.L.length+1) h7.cap);exact⟨rfl,HM.out.addL (a:=none) (c:=none) (fs:=[]) (fun j=>⟨by show(0:Nat)<=_;omega,by show(0:Nat)<=_;omega⟩) (SE _) (by rw[i.out,z.out]) S7⟩
theorem Qj(h:cd S b M w l)(hN:l<=1073741824) :
  Calls prog 12 #[pointer (some ⟨b,0,none⟩),agg #[int i64 4,int i64 t,int i64 m,int i64 z6,string g,string D]] S fun e w'=>iU b M w l true e w':=by
 obtain⟨W,HW⟩:∃W,Hid (S.alloc (.cells #[int i64 4,int i64 t,int i64 m,int i64 z6,string g,string D] 28)=W):=⟨_,rfl⟩
 obtain⟨Y,hB,a2,-⟩:=h.boxed 4 t m z6 g D W HW.out;obtain⟨o0,-⟩:=dV hB;have oz:=ae hB;obtain⟨iX,ai,u,v,x⟩:=Sr Mi;have y:Hid (cd W b M w l):=Y;have z:Hid (w.reg.length<=l):=h.len.2.1;have a1:Hid ((iz (w.L.map (fun d=>(d.1,d.2.2)))).n<=4294967296):=by show(w.L.map _).length<=_;rw[Sn];have:=h.len.2.2;omega
 have a0:Hid ((iz (w.L.map (fun d=>(d.2.1,d.2.2)))).n<=4294967296):=by show(w.L.map _).length<=_;rw[Sn];have:=h.len.2.2;omega
 have Q:Hid ((iz (w.L.map (fun d=>(d.1,d.2.2)))).n=w.L.length):=Sn _;have N:Hid ((iz (w.L.map (fun d=>(d.2.1,d.2.2)))).n=w.L.length):=Sn _;have ar:Hid (Calls prog 30 #[slice w.hr.ao w.reg.length w.hr.cap] W _):=jY w.hr.ao w.hr.cap w.reg W Y.ownR.srcO (by have:=z.out;omega);have c2:W.cell? ⟨b,2,none⟩=some (slice w.hr.ao w.reg.length w.hr.cap):=by rw[aj Y.blk];rfl
 have I:=ae Y.blk;clear h Y hB;go_enter func12,ntmps12;go_upto_region 1 with fail
 rw[HW.out];go_upto_region 14 with (go_at_call 30;refine R0 ar.out ?_;rintro e w1 ⟨rfl,ad,k1⟩)
 have S1:Hid (oN w1 (fw M (8,w.L.length) (vn (some W.heap.size) w.reg))):=y.out.sep.put _ _ (k1.mono (by simp)) ⟨(fun e=>by cases e),(fun q e=>by cases e;exact ad)⟩ (fun q hq=>RZ (by rw[Se.1 hq];exact RV _));obtain⟨F,an⟩:∃F,Hid (W.heap.size=F):=⟨_,rfl⟩
 rw[an.out]at S1 ⊢;obtain⟨J,H⟩:∃J,Hid (J=fw M (8,w.L.length) (vn (some F) w.reg)):=⟨_,rfl⟩
 rw[<-H.out]at S1;have U:Hid (J (0,0)=rU b 42 w.cells):=by show _=_;rw[H.out,RM _ _ (bu (by decide))];exact y.out.w0
 have aS:Hid (J (3,0)=cw w.hr (cK w.reg)):=by show _=_;rw[H.out,RM _ _ (bu (by decide))];exact y.out.r
 have V:Hid (J (4,0)=cw w.hl (iz (w.L.map (fun d=>(d.1,d.2.2))))):=by show _=_;rw[H.out,RM _ _ (bu (by decide))];exact y.out.ls
 have aT:Hid (J (5,0)=cw w.hc (iz (w.L.map (fun d=>(d.2.1,d.2.2))))):=by show _=_;rw[H.out,RM _ _ (bu (by decide))];exact y.out.lw
 obtain⟨p1,Z,o⟩:=S1.out.rowAt U.out (bu (by decide)) V.out;have O:Hid (w1.heap[b]?=some (.cells w.cells.toArray 42)/\b∉w.hl.blk.toList):=⟨p1,o⟩;have c0:w1.cell? ⟨b,3,none⟩=some (slice w.hl.ao w.L.length w.hl.cap):=by rw[aj p1];rfl
 have fb:=am p1;clear I;have I:=ae p1;clear p1 o c2 k1 ad;go_upto_region 16 with (at_builtin;refine dj w1 rfl (.tmp 76) (.tmp 78) 34 rfl iX (slice none 0 0) 24 w.hl (iz (w.L.map (fun d=>(d.1,d.2.2)))) [AJ (some F,w.reg)] underlying34 ai u v x rfl So (by rw[Q.out];simp[Act.eval]) Z a1.out (by omega) (by simp[Act.eval]) rfl (by simp[AJ,Value.oneCell']) ?_;intro f w5 C B;rw[qO]at C;have p5:=B.kept.get O.out.1 O.out.2;have f5:=am p5;have c5:w5.cell? ⟨b,3,none⟩=some (slice w.hl.ao w.L.length w.hl.cap):=(by rw[aj p5];rfl);have z5:=ae p5)
 rw[Q.out];have S5:Hid _:=(S1.out.grown U.out (bu (by decide)) V.out B C 3 (slice f.ao (w.L.length+1) f.cap));obtain⟨E,ax⟩:∃E,Hid (w5.setCell ⟨b,3,none⟩ (slice f.ao (w.L.length+1) f.cap)=E):=⟨_,rfl⟩
 rw[ax.out]at S5 ⊢;obtain⟨A,X⟩:∃A,A=fw (fw J (4,0) (cw f (iz (w.L.map (fun d=>(d.1,d.2.2))++[(some F,w.reg)])))) (0,0) (rU b 42 (w.cells.set 3 (slice f.ao (w.L.length+1) f.cap))):=⟨_,rfl⟩
 have i:Hid _:=X;clear X;rw[<-i.out]at S5;have az:Hid (A (3,0)=cw w.hr (cK w.reg)):=by show _=_;rw[i.out,RM _ _ (bu (by decide)),RM _ _ (bu (by decide))];exact aS.out
 have k:Hid (A (0,0)=rU b 42 (w.cells.set 3 (slice f.ao (w.L.length+1) f.cap))):=by show _=_;rw[i.out,bP]
 obtain⟨j,s,-⟩:=S5.out.rowAt k.out (bu (by decide)) az.out;have K:Hid (Calls prog 30 #[slice w.hr.ao w.reg.length w.hr.cap] E _):=jY w.hr.ao w.hr.cap w.reg E s.srcO (by have:=z.out;omega);clear p5 f5 c5 z5 C B c0 fb I Z s;have c2:E.cell? ⟨b,2,none⟩=some (slice w.hr.ao w.reg.length w.hr.cap):=by rw[aj j];rfl
 have I:=ae j;clear j;go_upto_region 17 with (go_at_call 30;refine R0 K.out ?_;rintro e w8 ⟨rfl,af,k2⟩)
 have S6:Hid (oN w8 (fw A (9,w.L.length) (vn (some E.heap.size) w.reg))):=S5.out.put _ _ (k2.mono (by simp)) ⟨(fun e=>by cases e),(fun q e=>by cases e;exact af)⟩ (fun q hq=>RZ (by rw[Se.1 hq];exact RV _));obtain⟨G,ap⟩:∃G,Hid (E.heap.size=G):=⟨_,rfl⟩
 rw[ap.out]at S6 ⊢;clear c2 I k2 af;have R:Hid (fw A (9,w.L.length) (vn (some G) w.reg) (0,0)=rU b 42 (w.cells.set 3 (slice f.ao (w.L.length+1) f.cap))):=by show _=_;rw[RM _ _ (bu (by decide))];exact k.out
 have T:Hid (fw A (9,w.L.length) (vn (some G) w.reg) (5,0)=cw w.hc (iz (w.L.map (fun d=>(d.2.1,d.2.2))))):=by show _=_;rw[RM _ _ (bu (by decide)),i.out,RM _ _ (bu (by decide)),RM _ _ (bu (by decide))];exact aT.out
 obtain⟨j,ac,p⟩:=S6.out.rowAt R.out (bu (by decide)) T.out;have P:Hid (w8.heap[b]?=some (.cells (w.cells.set 3 (slice f.ao (w.L.length+1) f.cap)).toArray 42)/\b∉w.hc.blk.toList):=⟨j,p⟩;have c1:w8.cell? ⟨b,4,none⟩=some (slice w.hc.ao w.L.length w.hc.cap):=by rw[aj j];rfl
 have fb:=am j;have I:=ae j;clear j p;go_wp2_with (at_builtin;refine dj w8 rfl (.tmp 92) (.tmp 94) 34 rfl iX (slice none 0 0) 24 w.hc (iz (w.L.map (fun d=>(d.2.1,d.2.2)))) [AJ (some G,w.reg)] underlying34 ai u v x rfl So (by rw[N.out];simp[Act.eval]) ac a0.out (by omega) (by simp[Act.eval]) rfl (by simp[AJ,Value.oneCell']) ?_;intro h7 w7 al ag;rw[qO]at al;have p7:=ag.kept.get P.out.1 P.out.2;have f7:=am p7;have c7:w7.cell? ⟨b,4,none⟩=some (slice w.hc.ao w.L.length w.hc.cap):=(by rw[aj p7];rfl);have z7:=ae p7;rw[N.out]);go_ret;have S7:=S6.out.grown R.out (bu (by decide)) T.out ag al 4 (slice h7.ao (w.L.length+1) h7.cap);exact⟨rfl,y.out.addL (a:=some F) (c:=some G) (fs:=w.reg) y.out.fit (by have:=z.out;omega) (by rw[i.out,H.out]) S7⟩
theorem GU{L:List (Option Nat×Option Nat×Fs)}(b:L[y]?=some (zt,z4,H))(f:Option Nat×Option Nat×Fs->Option Nat×Fs)(c:AJ (f (zt,z4,u))=AJ (f (zt,z4,H))):iz ((L.set y (zt,z4,u)).map f)=iz (L.map f):=by
 unfold iz;have e:((L.set y (zt,z4,u)).map f).map AJ=(L.map f).map AJ:=by
  rw[UE,UE,c];apply TY;intro j;rw[Tl];by_cases a:y=j
  ·subst a;rw[RY rfl,Sy,Sy,b];have:=(R8.1 b).1;simp[this]
  ·rw[RU a]
 rw[e,Sn,SS,Sn]
theorem Ja(h:lr H)(i:Nat)(b:y3.size<=1073741824)(a:y2.size<=1073741824):lr (H.set i (y3,y2)):=by
 intro j;have:=h j;unfold aD ak at *;rw[RT]at *;rw[Tl];by_cases e:i=j
 ·subst e;rw[RY rfl];split
  ·exact⟨b,a⟩
  ·exact⟨by show(0:Nat)<=_;omega,by show(0:Nat)<=_;omega⟩
 ·rw[RU e];exact this
theorem cd.wrote(h:cd v y zb d N)(c:d.L[z0]?=some (zt,z4,H))(k:u.length=H.length)(q:lr u)(t:oN y0 (fw (fw zb (8,z0) (vn zt u)) (9,z0) (vn z4 u))):∃f g,cd y0 y f g (N+1)/\rH zb d f g:=by
 refine⟨_,{ d with L:=d.L.set z0 (zt,z4,u) },⟨t,?_,?_,?_,?_,?_,?_,?_,?_,?_,?_,?_⟩,?_⟩
 ·rw[RM _ _ (bu (by decide)),RM _ _ (bu (by decide)),h.w0];unfold Mc.cells;rw[SS]
 ·simp only[fw];exact h.x
 ·simp only[fw];exact h.m
 ·simp only[fw];exact h.r
 ·rw[RM _ _ (bu (by decide)),RM _ _ (bu (by decide)),h.ls];congr 1;exact(GU c (fun l=>(l.1,l.2.2)) (by simp only[AJ,k])).symm
 ·rw[RM _ _ (bu (by decide)),RM _ _ (bu (by decide)),h.lw];congr 1;exact(GU c (fun l=>(l.2.1,l.2.2)) (by simp only[AJ,k])).symm
 ·intro i x m H a;simp only[fw];exact h.v i x m H a
 ·intro i x m b a;replace a:(d.L.set z0 (zt,z4,u))[i]?=some (x,m,b):=a;rw[Tl]at a;rw[RM _ _ (bu (by decide))];by_cases e:z0=i
  ·subst e;rw[RY rfl,RY (R8.1 c).1]at a;cases a
   obtain⟨-,-,-,w⟩:=h.l z0 zt z4 H c;rw[bP,bP];exact⟨rfl,rfl,q,by omega⟩
  ·rw[RU e]at a;rw[RM _ _ (rV (Ne.symm e)),RM _ _ (rV (Ne.symm e)),RM _ _ (bu (by decide))];exact h.more.l i x m b a
 ·exact h.fit
 ·obtain⟨n,o,p⟩:=h.more.len;exact⟨n,o,by show(d.L.set z0 (zt,z4,u)).length<=_;rw[SS];exact p⟩
 ·exact h.rng
 ·exact⟨fun j i s=>by(repeat rw[pm (by decide) s]),rfl,rfl⟩
theorem iZ.wrote(h:iZ v (some y) H)(a:N<H.length)(n d:ByteArray):iZ ((v.setCell ⟨y,N*2,none⟩ (string n)).setCell ⟨y,N*2+1,none⟩ (string d)) (some y) (H.set N (n,d))/\aa [y] v ((v.setCell ⟨y,N*2,none⟩ (string n)).setCell ⟨y,N*2+1,none⟩ (string d)):=by
 refine⟨⟨(fun e=>by cases e),fun q e=>?_⟩,((aa.refl _ _).setCell (R4 (by simp)) _).setCell (R4 (by simp)) _⟩;cases e
 rw[ah (ah (h.blk y rfl) _ _) _ _,SV,SV,GH H N n d a]
theorem iZ.cells(h:iZ v (some y) H)(d:N<H.length):(v.cell? ⟨y,N*2,none⟩=some (string (aD H N))/\v.cell? ⟨y,N*2+1,none⟩=some (string (ak H N)))/\(∀j,v.frozen? ⟨y,j,none⟩=false)/\y<v.heap.size:=by
 have a:=h.blk y rfl;obtain⟨b,c⟩:=wQ H N d;exact⟨⟨by rw[aj a];simpa using b,by rw[aj a];simpa using c⟩,am a,ae a⟩
theorem oA{L:List (Option Nat×Fs)}(o:aC v s (iz L)){k:Nat}{x:Option Nat×Fs}(c:L[k]?=some x):∃g,s.ao=some ⟨g,0,none⟩/\g<v.heap.size/\v.cell? ⟨g,k,none⟩=some (AJ x):=by
 have i:=(R8.1 c).1;rcases o.Wu with ⟨_,b,_⟩ | ⟨g,d,a,e,f,-⟩
 ·have b:L.length=0:=b;omega
 ·exact⟨g,a,ae e,o.cell a k (AJ x) (by show(L.map AJ)[k]?=_;rw[Sy,c];rfl)⟩
theorem Ql(h:cd S b M w l)(hN:l<=1073741824)(hA:sG t)(hC:sG m)(hs:g.size<=1073741824)(ht:D.size<=1073741824) :
  Calls prog 12 #[pointer (some ⟨b,0,none⟩),agg #[int i64 6,int i64 t,int i64 m,int i64 z6,string g,string D]] S fun e w'=>iU b M w l true e w':=by
 obtain⟨W,HW⟩:∃W,Hid (S.alloc (.cells #[int i64 6,int i64 t,int i64 m,int i64 z6,string g,string D] 28)=W):=⟨_,rfl⟩
 obtain⟨r,hB,be,-⟩:=h.boxed 6 t m z6 g D W HW.out;obtain⟨o0,o1,o2,o3,V,X,B⟩:=dV hB;have Q:=ae r.blk;have G:W.cell? ⟨b,3,none⟩=some (slice w.hl.ao w.L.length w.hl.cap):=by rw[aj r.blk];rfl
 by_cases hL:w.L.length=0
 ·have HF:Hid (cd W b M w l):=r;rw[hL]at G;clear h r hB;go_enter func12,ntmps12;go_upto_region 1 with fail
  rw[HW.out];go_wp2;go_ret;exact⟨rfl,_,_,HF.out.more,rH.refl _ _⟩
 ·have bd:=h.len.2.2;have N:Hid (∀C,Calls prog 13 #[int i64 t,int i64 w.L.length] C fun e w'=>e=returned (int i64 (fU t w.L.length:Nat))/\w'=C):=fun C=>gC t w.L.length C hA ⟨by omega,by omega⟩;have aS:=iH t w.L.length (by omega);obtain⟨k,Hk⟩:∃k,Hid (fU t w.L.length=k):=⟨_,rfl⟩
  rw[Hk.out]at N aS;obtain⟨⟨a,c,d⟩,Z⟩:∃x,w.L[k]?=some x:=⟨w.L[k],RQ aS⟩
  have HM:Hid (cd W b M w l):=r;obtain⟨y,A,u,bg⟩:=r.l k a c d Z;obtain⟨gl,U,Y,p⟩:=oA r.ownL (k:=k) (x:=(a,d)) (by rw[Sy,Z];rfl);replace p:W.cell? ⟨gl,k,none⟩=some (slice (zp a) d.length d.length):=p;rw[U]at G;have bk:(k:Int)<(w.L.length:Int):=by omega
  have a7:(0:Int)<(w.L.length:Int):=by omega
  have ag:Hid _:=Z;have H8:Hid _:=y;have H9:Hid _:=A;by_cases s:d.length=0
  ·rw[s]at p;clear h r hB Z y A u U;go_enter func12,ntmps12;(go_upto_region 1 with fail);rw[HW.out];(go_upto_region 26 with fail);go_quiet ((go_at_call 13;exact Ss (N.out _)));have HF:Hid (cd (W.drewN nq) b M w l):=HM.out.Wj ((aa.refl [] _).drewN nq);go_wp2;go_ret;exact⟨rfl,_,_,HF.out.more,rH.refl _ _⟩
  ·have al:Hid (∀C,Calls prog 13 #[int i64 m,int i64 d.length] C fun e w'=>e=returned (int i64 (fU m d.length:Nat))/\w'=C):=fun C=>gC m d.length C hC ⟨by omega,by omega⟩;have j:=iH m d.length (by omega);obtain⟨i,Hi⟩:∃i,Hid (fU m d.length=i):=⟨_,rfl⟩
   rw[Hi.out]at al j;have T:iZ W a d:=by have:=r.sep.all (8,k);rw[y]at this;exact this
   have ax:iZ W c d:=(by have:=r.sep.all (9,k);rw[A]at this;exact this);obtain⟨f,rfl⟩:∃f,a=some f:=by
    cases a with
    | none=>rw[T.nil rfl]at s;exact absurd rfl s
    | some f=>exact⟨f,rfl⟩
   obtain⟨n,rfl⟩:∃n,c=some n:=by
    cases c with
    | none=>rw[ax.nil rfl]at s;exact absurd rfl s
    | some n=>exact⟨n,rfl⟩
   have a5:=(T.cells j).2.2;have H:f≠S.heap.size:=by
    intro e;have:=(vn (some f) d).lt S (by have:=h.sep.all (8,k);rw[(h.l k _ _ d Z).1]at this;exact this) f (Se.2 rfl);omega
   have a0:Hid _:=hB;have ac:Hid (lr (d.set i (g,D))):=Ja u i hs ht;replace p:W.cell? ⟨gl,k,none⟩=some (slice (some ⟨f,0,none⟩) d.length d.length):=p;have bj:(i:Int)<d.length:=(by omega);have bf:(0:Int)<d.length:=(by omega);have a2:Hid _:=H;have E:Hid (∀o,aa [] W o->(o.cell? ⟨S.heap.size,2,none⟩=some (int i64 m)/\o.cell? ⟨S.heap.size,4,none⟩=some (string g)/\o.cell? ⟨S.heap.size,5,none⟩=some (string D)/\S.heap.size<o.heap.size)/\(o.cell? ⟨b,3,none⟩=some (slice (some ⟨gl,0,none⟩) w.L.length w.hl.cap)/\b<o.heap.size)/\o.cell? ⟨gl,k,none⟩=some (slice (some ⟨f,0,none⟩) d.length d.length)/\gl<o.heap.size):=fun o kw=>by
    have q:∀ar i,ar<W.heap.size->o.cell? ⟨ar,i,none⟩=W.cell? ⟨ar,i,none⟩:=fun ar i hg=>Sh (kw.block ar hg (by simp));have z:=kw.size;exact⟨⟨by rw[q _ _ B];exact o2,by rw[q _ _ B];exact V,by rw[q _ _ B];exact X,by omega⟩,⟨by rw[q _ _ Q];exact G,by omega⟩,by rw[q _ _ Y];exact p,by omega⟩
   clear h r hB Z y A u U T ax H a5;go_enter func12,ntmps12;(go_upto_region 1 with fail);rw[HW.out];(go_upto_region 26 with fail);go_quiet ((go_at_call 13;exact Ss (N.out _)));(go_upto_region 28 with fail);obtain⟨W2,an⟩:∃W2,Hid (W.drewN nq=W2):=⟨_,rfl⟩
   rw[an.out];have ad:Hid (aa [] W W2):=by show aa _ _ _;rw[<-an.out];exact(aa.refl [] _).drewN nq
   clear o0 o1 o2 o3 V X B G Q p Y;obtain⟨⟨o2,V,X,B⟩,⟨G,Q⟩,p,Y⟩:=E.out W2 ad.out;go_quiet ((go_at_call 13;exact Ss (al.out _)));(go_upto_region 29 with fail);obtain⟨F,ap⟩:∃F,Hid (W2.drewN nq=F):=⟨_,rfl⟩
   rw[ap.out];have I:Hid (aa [] W F):=by show aa _ _ _;rw[<-ap.out];exact ad.out.drewN nq
   have ai:Hid (cd F b M w l):=HM.out.Wj I.out;have J:Hid (iZ F (some f) d):=(by show iZ _ _ _;have:=ai.out.sep.all (8,k);rw[H8.out]at this;exact this);clear o2 V X B G Q p Y;obtain⟨⟨o2,V,X,B⟩,⟨G,Q⟩,p,Y⟩:=E.out F I.out;obtain⟨⟨d0,d1⟩,df,dz⟩:=J.out.cells j;go_region
   all_goals
    obtain⟨v,O⟩:∃v,Hid (((F.setCell ⟨f,i*2,none⟩ (string g)).setCell ⟨f,i*2+1,none⟩ (string D)).drew=v):=⟨_,rfl⟩
    rw[O.out];have af:Hid (aa [f] F v):=by show aa _ _ _;rw[<-O.out];exact(J.out.wrote j g D).2.drew
    have S4:Hid (oN v (fw M (8,k) (vn (some f) (d.set i (g,D))))):=by
     show oN _ _;refine ai.out.sep.put _ _ (by rw[H8.out];exact af.out) ?_ (fun q hq=>R4 (by rw[H8.out];exact hq));rw[<-O.out];exact(vn _ _).ok [] _ _ (J.out.wrote j g D).1 (aa.refl [] _).drew (by simp)
    have a3:Hid (fw M (8,k) (vn (some f) (d.set i (g,D))) (0,0)=rU b 42 w.cells):=(by show _=_;rw[RM _ _ (bu (by decide))];exact HM.out.w0);have a4:Hid (fw M (8,k) (vn (some f) (d.set i (g,D))) (5,0)=cw w.hc (iz (w.L.map (fun a6=>(a6.2.1,a6.2.2))))):=(by show _=_;rw[RM _ _ (bu (by decide))];exact HM.out.lw);have R:Hid (fw M (8,k) (vn (some f) (d.set i (g,D))) (9,k)=vn (some n) d):=(by show _=_;rw[RM _ _ (bu (by decide))];exact H9.out);obtain⟨b4,aT,-⟩:=S4.out.rowAt a3.out (bu (by decide)) a4.out;have K:Hid (iZ v (some n) d):=(by show iZ _ _ _;have:=S4.out.all (9,k);rw[R.out]at this;exact this);obtain⟨gr,az,rz,rc⟩:=oA aT (k:=k) (x:=(some n,d)) (by rw[Sy,ag.out];rfl);replace rc:v.cell? ⟨gr,k,none⟩=some (slice (some ⟨n,0,none⟩) d.length d.length):=rc;have c4:v.cell? ⟨b,4,none⟩=some (slice (some ⟨gr,0,none⟩) w.L.length w.hc.cap):=(by rw[aj b4,<-az];rfl);clear d0 d1 df dz o2 V X B G Q p Y;obtain⟨⟨d0,d1⟩,df,dz⟩:=K.out.cells j;have Q:=ae b4;have B4:=af.out.get (I.out.get a0.out (by simp)) (by simp;exact fun e=>a2.out e.symm);obtain⟨-,-,-,-,V,X,B⟩:=dV B4;clear b4 aT az B4;(go_upto_region 30 with fail);go_region
    all_goals
     obtain⟨W5,P⟩:∃W5,Hid (((v.setCell ⟨n,i*2,none⟩ (string g)).setCell ⟨n,i*2+1,none⟩ (string D)).drew=W5):=⟨_,rfl⟩
     rw[P.out];have a1:Hid (aa [n] v W5):=by show aa _ _ _;rw[<-P.out];exact(K.out.wrote j g D).2.drew
     have S5:Hid (oN W5 (fw (fw M (8,k) (vn (some f) (d.set i (g,D)))) (9,k) (vn (some n) (d.set i (g,D))))):=by
      show oN _ _;refine S4.out.put _ _ (by rw[R.out];exact a1.out) ?_ (fun q hq=>R4 (by rw[R.out];exact hq));rw[<-P.out];exact(vn _ _).ok [] _ _ (K.out.wrote j g D).1 (aa.refl [] _).drew (by simp)
     go_wp2;go_ret;exact⟨rfl,HM.out.wrote ag.out SS ac.out S5.out⟩
theorem CI{o k:Nat}(h:v.heap[y]?=some (.cells (ri H).toArray 68))(c:o+k<H.length):v.cell? ⟨y,o*2+k*2,none⟩=some (string (aD H (o+k)))/\v.cell? ⟨y,o*2+k*2+1,none⟩=some (string (ak H (o+k))):=by
 obtain⟨a,b⟩:=wQ H (o+k) c;rw[Vr]at a b;exact⟨by rw[aj h];simpa using a,by rw[aj h];simpa using b⟩
theorem iZ.piece(h:v.heap[y]?=some (.cells (ri H).toArray 68))(o n:Nat)(i:o+n<=H.length):lk v (some ⟨y,o*2,none⟩) ((H.drop o).take n):=by
 intro k g;rw[To,Tc]at g;have e:∀j,j<n->((H.drop o).take n)[j]?=H[o+j]?:=fun j f=>by rw[UK,RY f,Us]
 obtain⟨a,b⟩:=CI h (o:=o) (k:=k) (by omega);have c:aD ((H.drop o).take n) k=aD H (o+k):=by unfold aD;rw[RT,RT,e k (by omega)]
 have d:ak ((H.drop o).take n) k=ak H (o+k):=by unfold ak;rw[RT,RT,e k (by omega)]
 exact⟨y,o*2,rfl,ae h,by rw[c];exact a,by rw[d];exact b⟩
theorem iZ.src{a:Option Nat}(h:iZ v a H):lk v (zp a) H:=by
 cases a with
 | none=>rw[h.nil rfl];intro k c;cases c
 | some b =>
  have:=iZ.piece (h.blk b rfl) 0 H.length (by omega);rw[U0,Tr,V8]at this;exact this
theorem lr.piece(h:lr H)(o n:Nat):lr ((H.drop o).take n):=by
 intro j;have a:=h (o+j);unfold aD ak at *;rw[RT]at *;rw[UK];split
 ·rw[Us];exact a
 ·exact⟨by show(0:Nat)<=_;omega,by show(0:Nat)<=_;omega⟩
def DU(w:World)(x m:Nat)(h:Hd)(lo hi lo2 hi2:Nat)(st:Option Nat)(fs:Fs)(e:Ending)(w':World):Prop :=
 e=returned (bool true)/\dJ w' x fs lo hi st/\(∃h',dA w' m fs h' lo2 hi2 st/\∀q,h'.blk=some q->h.blk=some q∨w.heap.size<=q)/\aa ([x]++m :: h.blk.toList) w w'
theorem lk.srcF(h:v.heap[y]?=some (.cells (ri H).toArray 68)):nH v (some ⟨y,0,none⟩) H.length H:=by
 refine⟨RV _,fun k c=>?_⟩;obtain⟨a,b⟩:=CI h (o:=0) (k:=k) (by omega);rw[V8,Ut]at a b;exact⟨y,rfl,ae h,by simpa using a,by simpa using b⟩
theorem CH(g e:Fs)(h:Hd)(F E p m:Nat)(v:Option Nat)(w:World)(hx:dJ w T g F E v)(L:dA w f g h p m v)(Z:w.heap[i]?=some (.cells (ri e).toArray 68))(D:∀q,q∈T :: iy F E->q∉f :: (h.blk.toList++iy p m))(ai:i≠T)(ag:i≠f)(af:h.blk≠some i)(hl:n+b+l<=e.length)(hN:e.length<=1073741824)(hf:lr e) :
  Calls prog 14 #[pointer (some ⟨T,0,none⟩),pointer (some ⟨f,0,none⟩),slice (some ⟨i,0,none⟩) e.length e.length,int i64 n,int i64 b,int i64 l] w fun r u=>DU w T f h F E p m (mG (dF ((e.drop n).take b)) v) (jK g ((e.drop n).take b)) r u:=by
 have HX:Hid (dJ w T g F E v):=hx;have aT:Hid (dA w f g h p m v):=L;have HB:Hid _:=Z;have xz:=hx.anyS.lt;have bz:=ae Z;have HF:=(show Hid (lr e) from hf);have x:((e.drop n).take b).length=b:=by rw[To,Tc];omega
 have a2:Hid (∀u,aa [] w u->lk u (some ⟨i,0,none⟩) e):=fun u k=>(iZ.src (a:=some i) ⟨(fun l=>by cases l),fun q l=>by cases l;exact k.get Z (by simp)⟩)
 have Y:Hid (∀t s,aa [] w t->(b=0∨s=⟨i,n*2,none⟩)->lk t (some s) ((e.drop n).take b)):=fun t s k y=>by
  rcases y with l | l
  ·rw[l];intro j hj;rw[UH]at hj;cases hj
  ·rw[l];exact iZ.piece (k.get Z (by simp)) n b (by omega)
 have ar:Hid (Calls prog 30 #[slice (some ⟨i,0,none⟩) e.length e.length] w _):=jY _ e.length e w (a2.out w (aa.refl _ _)) hN;have ax:Hid (∀t c s,aa [] w t->(b=0∨s=⟨i,n*2,none⟩)->Calls prog 30 #[slice (some s) b c] t fun l u=>l=returned (slice (some ⟨t.heap.size,0,none⟩) b b)/\u.heap[t.heap.size]?=some (.cells (ri ((e.drop n).take b)).toArray 68)/\aa [] t u):=fun t c s k y=>by
  have:=jY (some s) c ((e.drop n).take b) t (Y.out t s k y) (by rw[x];omega);rw[x]at this;exact this
 have a6:Hid (∀G c s,aa [] w G->(b=0∨s=⟨i,n*2,none⟩)->Calls prog 31 #[pointer (some ⟨T,0,none⟩),slice (some s) b c] G fun l u=>l=returned (int i64 (dF ((e.drop n).take b)))/\dJ u T (jK g ((e.drop n).take b)) F E (mG (dF ((e.drop n).take b)) v)/\aa [T] G u):=fun G c s k y=>by
  have:=C3 T g ((e.drop n).take b) (some s) c F E v G (hx.Wj k) (Y.out G s k y) (hf.piece n b);rw[x]at this;exact this
 have aS:Hid (∀A B2,dA A f g h p m v->A.heap[B2]?=some (.cells (ri ((e.drop n).take b)).toArray 68)->Calls prog 32 #[pointer (some ⟨f,0,none⟩),slice (some ⟨B2,0,none⟩) b b] A fun l u=>l=returned (int i64 (dF ((e.drop n).take b)))/\∃J,dA u f (jK g ((e.drop n).take b)) J p m (mG (dF ((e.drop n).take b)) v)/\aa (f :: h.blk.toList) A u/\∀q,J.blk=some q->h.blk=some q∨A.heap.size<=q):=fun A B2 hr C=>by
  have:=Ca f g ((e.drop n).take b) h p m v (some ⟨B2,0,none⟩) ((e.drop n).take b).length A hr (lk.srcF C) (fun l=>by cases l) (fun s l=>by cases l;exact⟨_,rfl⟩) (fun j _=>hf.piece n b j);rw[x]at this;exact this
 have H:Hid (f<w.heap.size/\∀q,h.blk=some q->q<w.heap.size):=by
  obtain⟨on,p2,p3,p4,hr⟩:=L.anyS;exact⟨ae hr.d,fun q o=>hr.own.lt o⟩
 generalize jK g ((e.drop n).take b)=I at *;generalize mG (dF ((e.drop n).take b)) v=M at *;generalize dF ((e.drop n).take b)=r at *;generalize (e.drop n).take b=P at *;have bj:(n:Int)+(b:Int)<=e.length:=by omega
 have bk:(n:Int)+(b:Int)+(l:Int)<=e.length:=by omega
 have bf:(e.length:Int)<=1073741824:=by omega
 have HD:Hid (i≠T/\i≠f/\h.blk≠some i):=⟨ai,ag,af⟩;have W:Hid _:=D;have be:Hid (∀q,h.blk=some q->q<w.heap.size):=H.out.2;clear hx L Z hf D ai ag af x;have K:(b=0/\l=0/\e.length=n)∨(b=0/\l=0/\¬e.length=n)∨(¬b+l=0/\¬e.length=n):=by omega
 rcases K with ⟨rfl,rfl,rfl⟩ | ⟨rfl,rfl,ba⟩ | ⟨bg,ba⟩
 all_goals
  go_enter func14,ntmps14;go_upto_region 2 with (go_at_call 30;refine R0 ar.out ?_;rintro e1 t ⟨rfl,ac,k1⟩)
  go_upto_region 3 with (go_at_call 30;refine R0 (ax.out t _ _ k1 (by first | exact R4 trivial | exact R4 rfl | exact RZ rfl)) ?_;rintro e2 G ⟨rfl,C,k2⟩)
  have B:Hid _:=k1.trans k2;have ao:Hid _:=(k2.get ac (by simp));have ap:Hid _:=C;have a7:Hid (w.heap.size<=t.heap.size):=k1.size;clear ac C k1 k2;go_upto_region 4 with (go_at_call 31;refine R0 (a6.out G _ _ B.out (by first | exact R4 trivial | exact R4 rfl | exact RZ rfl)) ?_;rintro e3 A ⟨rfl,an,N⟩)
  have a0:Hid (dA A f g h p m v):=(aT.out.Wj B.out).kept N (fun q o L=>W.out T Sz (by rw[<-Se.1 L];exact o));have Q:Hid _:=(N.get ao.out (by simp;omega));have S:Hid _:=(N.get ap.out (by have:=a7.out;simp;omega));have U:Hid _:=(N.get (B.out.get HB.out (by simp)) (by simp;exact HD.out.1));have a4:Hid (dJ A T I F E M):=an;have X:Hid _:=((B.out.mono (S':=[T]) (by simp)).trans N);clear an N;go_upto_region 5 with (go_at_call 32;refine R0 (aS.out A _ a0.out S.out) ?_;rintro e4 O ⟨rfl,h4,al,k4,b4⟩)
  have a1:Hid (∃J,dA O f I J p m M/\∀q,J.blk=some q->h.blk=some q∨w.heap.size<=q):=⟨h4,al,fun q o=>(b4 q o).elim R4 (fun z=>RZ (Sc X.out.size z))⟩;have a5:Hid (dJ O T I F E M):=a4.out.kept k4 (fun q o L=>W.out q o (by rcases Sv.1 L with l | l;rw[l];exact Sz;exact Sx _ (Ti _ l)));have R:Hid _:=(k4.get Q.out (by intro o;rcases Sv.1 o with l | o;have:=H.out.1;omega;have:=H.out.2 _ (aQ o);omega));have V:Hid _:=(k4.get U.out (by intro o;rcases Sv.1 o with l | o;exact HD.out.2.1 l;exact HD.out.2.2 (aQ o)));have az:Hid (aa ([T]++f :: h.blk.toList) w O):=(X.out.mono (S':=[T]++f :: h.blk.toList) (fun q o _=>Ti _ o)).trans (k4.mono (fun q o _=>Tz _ o));have a3:Hid _:=(nW (some ⟨i,0,none⟩) (some ⟨w.heap.size,0,none⟩) e.length e.length e O (iZ.src (a:=some i) ⟨(fun l=>by cases l),fun q l=>by cases l;exact V.out⟩) (iZ.src (a:=some w.heap.size) ⟨(fun l=>by cases l),fun q l=>by cases l;exact R.out⟩) (by omega));clear al k4 b4;go_wp2_with (go_at_call 27;refine R0 a3.out ?_;rintro e5 w5 ⟨rfl,n5,bl⟩);go_ret;have k5:aa [] O (O.drewN n5):=(aa.refl [] _).drewN n5;obtain⟨J,bd,bc⟩:=a1.out;exact⟨rfl,a5.out.Wj k5,⟨J,bd.Wj k5,bc⟩,az.out.trans (k5.mono (by simp))⟩
theorem ET(K:dJ S T L i n z3)(w:dA S f L I b l z3)(s:∀q,q∈T :: iy i n->q∉f :: (I.blk.toList++iy b l)) :
  Calls prog 14 #[pointer (some ⟨T,0,none⟩),pointer (some ⟨f,0,none⟩),slice none 0 0,int i64 0,int i64 0,int i64 0] S fun r a=>DU S T f I i n b l (mG (dF []) z3) (jK L []) r a:=by
 have HX:Hid (dJ S T L i n z3):=K;have Q:Hid (dA S f L I b l z3):=w;have xz:=K.anyS.lt;have m:Hid (∀(a:World) ao,lk a ao []):=fun a ao j hj=>by cases hj
 have E:lr []:=fun j=>⟨by show(0:Nat)<=_;omega,by show(0:Nat)<=_;omega⟩
 have HC:Hid (∀p,Calls prog 30 #[slice none 0 0] p fun e a=>e=returned (slice (some ⟨p.heap.size,0,none⟩) 0 0)/\a.heap[p.heap.size]?=some (.cells (ri []).toArray 68)/\aa [] p a):=fun p=>jY none 0 [] p (m.out _ _) (by simp);have Y:Hid (∀y,aa [] S y->Calls prog 31 #[pointer (some ⟨T,0,none⟩),slice none 0 0] y fun e a=>e=returned (int i64 (dF []))/\dJ a T (jK L []) i n (mG (dF []) z3)/\aa [T] y a):=fun y k=>C3 T L [] none 0 i n z3 y (K.Wj k) (m.out _ _) E;have P:Hid (∀g H,dA g f L I b l z3->g.heap[H]?=some (.cells (ri []).toArray 68)->Calls prog 32 #[pointer (some ⟨f,0,none⟩),slice (some ⟨H,0,none⟩) 0 0] g fun e a=>e=returned (int i64 (dF []))/\∃v,dA a f (jK L []) v b l (mG (dF []) z3)/\aa (f :: I.blk.toList) g a/\∀q,v.blk=some q->I.blk=some q∨g.heap.size<=q):=fun g H J o=>by
  exact Ca f L [] I b l z3 (some ⟨H,0,none⟩) 0 g J (lk.srcF o) (fun e=>by cases e) (fun ad e=>by cases e;exact⟨_,rfl⟩) (fun j hj=>by cases hj)
 have ai:Hid (f<S.heap.size/\∀q,I.blk=some q->q<S.heap.size):=by
  obtain⟨on,p2,p3,p4,J⟩:=w.anyS;exact⟨ae J.d,fun q c=>J.own.lt c⟩
 generalize jK L []=u at *;generalize mG (dF []) z3=x at *;generalize dF []=r at *;have C:Hid _:=s;clear K w s E;go_enter func14,ntmps14;go_upto_region 2 with (go_at_call 30;refine R0 (HC.out S) ?_;rintro e1 p ⟨rfl,ac,k1⟩)
 go_upto_region 3 with (go_at_call 30;refine R0 (HC.out p) ?_;rintro e2 y ⟨rfl,o,k2⟩)
 have t:Hid _:=k1.trans k2;have N:Hid _:=o;have Z:Hid (S.heap.size<=p.heap.size):=k1.size;clear ac o k1 k2;go_upto_region 4 with (go_at_call 31;refine R0 (Y.out y t.out) ?_;rintro e3 g ⟨rfl,G,M⟩)
 have R:Hid (dA g f L I b l z3):=(Q.out.Wj t.out).kept M (fun q c w=>C.out T Sz (by rw[<-Se.1 w];exact c));have B:Hid _:=(M.get N.out (by have:=Z.out;simp;omega));have W:Hid (dJ g T u i n x):=G;have D:Hid _:=((t.out.mono (S':=[T]) (by simp)).trans M);clear G M;go_upto_region 5 with (go_at_call 32;refine R0 (P.out g _ R.out B.out) ?_;rintro e4 A ⟨rfl,h4,F,k4,b4⟩)
 have U:Hid (∃v,dA A f u v b l x/\∀q,v.blk=some q->I.blk=some q∨S.heap.size<=q):=⟨h4,F,fun q c=>(b4 q c).elim R4 (fun z=>RZ (Sc D.out.size z))⟩;have X:Hid (dJ A T u i n x):=W.out.kept k4 (fun q c w=>C.out q c (by rcases Sv.1 w with e | e;rw[e];exact Sz;exact Sx _ (Ti _ e)));have O:Hid (aa ([T]++f :: I.blk.toList) S A):=(D.out.mono (S':=[T]++f :: I.blk.toList) (fun q c _=>Ti _ c)).trans (k4.mono (fun q c _=>Tz _ c));have V:Hid (Calls prog 27 #[slice none 0 0,slice (some ⟨S.heap.size,0,none⟩) 0 0] A _):=nW none (some ⟨S.heap.size,0,none⟩) 0 0 [] A (m.out _ _) (m.out _ _) (by simp);clear F k4 b4;go_wp2_with (go_at_call 27;refine R0 V.out ?_;rintro e5 w5 ⟨rfl,n5,al⟩);go_ret;have k5:aa [] A (A.drewN n5):=(aa.refl [] _).drewN n5;obtain⟨v,ag,af⟩:=U.out;exact⟨rfl,X.out.Wj k5,⟨v,ag.Wj k5,af⟩,O.out.trans (k5.mono (by simp))⟩
def PG(w:World)(x m:Nat)(h:Hd)(lo hi lo2 hi2:Nat)(fs:Fs)(e:Ending)(w':World):Prop :=
 e=returned (bool true)/\(∃st lo1 hi1 lo3 hi3,dJ w' x fs lo1 hi1 st/\oc w.heap.size lo hi lo1 hi1/\dA w' m fs h lo3 hi3 st/\oc w.heap.size lo2 hi2 lo3 hi3/\(∀q,q∈x :: iy lo1 hi1->q∉m :: (h.blk.toList++iy lo3 hi3)))/\aa ([x]++m :: h.blk.toList) w w'
theorem Bn(hx:dJ S T L i n z3)(g:dA S f L I b l z3)(ar:∀j,j<L.length->(ak L j).size<=1024)(w:∀q,q∈T :: iy i n->q∉f :: (I.blk.toList++iy b l)) :
  Calls prog 17 #[pointer (some ⟨T,0,none⟩),pointer (some ⟨f,0,none⟩),string D] S fun e G=>PG S T f I i n b l L e G:=by
 have ap:L.length<=4:=by obtain⟨on,p2,p3,p4,r⟩:=g.anyS;exact r.le
 obtain⟨⟨r,s,X,c⟩,q,k,h1,h2⟩:=LA T f L I i n b l z3 D S hx ap ar;have H1:Hid (Calls prog 37 #[pointer (some ⟨T,0,none⟩),string D] S fun e G=>e=returned (tuple #[agg #[int i64 r,string s,int i64 X,int i64 c],int i64 q])/\(∃d a,dJ G T L d a k/\oc S.heap.size i n d a)/\aa [T] S G):=h1;have H2:Hid (∀J,dA J f L I b l z3->Calls prog 38 #[pointer (some ⟨f,0,none⟩),string D] J fun e G=>e=returned (tuple #[agg #[int i64 r,string s,int i64 X,int i64 c],int i64 q])/\(∃d a,dA G f L I d a k/\oc J.heap.size b l d a)/\aa [f] J G):=h2;have af:Hid (dA S f L I b l z3):=g;have x:Hid _:=w;have W:Hid ((∀q,q∈T :: iy i n->q<S.heap.size)/\∀q,q∈f :: (I.blk.toList++iy b l)->q<S.heap.size):=⟨hx.lt,g.lt⟩;clear h1 h2 hx g w;go_enter func17,ntmps17;go_upto_region 2 with (go_at_call 37;refine R0 H1.out ?_;rintro e1 V ⟨rfl,⟨d,a,F,n1⟩,k1⟩)
 obtain⟨t,B⟩:∃t,Hid (V.alloc (.cells #[int i64 r,string s,int i64 X,int i64 c] 87)=t):=⟨_,rfl⟩
 have y:Hid _:=fN B.out;have Y:Hid _:=fY B.out;have an:Hid (dJ t T L d a k):=F.Wj y.out;have P:Hid (oc S.heap.size i n d a):=n1;have ac:Hid (a<=V.heap.size):=F.z;have O:Hid (aa [T] S t):=k1.trans (y.out.mono (by simp));have ai:Hid (dA t f L I b l z3):=af.out.kept O.out (fun q m g=>x.out T Sz (by rw[<-Se.1 g];exact m));have Q:Hid (V.heap.size<=t.heap.size):=y.out.size;have E:Hid (S.heap.size<=V.heap.size):=k1.size;rw[B.out];clear F k1 n1;go_upto_region 3 with (go_at_call 38;refine R0 (H2.out t ai.out) ?_;rintro u J ⟨rfl,⟨p,o,R,n3⟩,k2⟩)
 obtain⟨H,C⟩:∃H,Hid (J.alloc (.cells #[int i64 r,string s,int i64 X,int i64 c] 87)=H):=⟨_,rfl⟩
 have N:Hid _:=fN C.out;have K:=fY C.out;have A:Hid (aa [f] t H):=k2.trans (N.out.mono (by simp));have M:Hid (∀q,q∈T :: iy d a->q∈T :: iy i n∨(S.heap.size<=q/\q<V.heap.size)):=fun q m=>by
  rcases Sv.1 m with e | e
  ·exact R4 (by rw[e];exact Sz)
  ·rcases P.out.mem e with u | u
   ·exact R4 (Sx _ u)
   ·exact RZ ⟨u,R6 (nM.1 e).2 ac.out⟩
 have ao:Hid (dJ H T L d a k):=an.out.kept A.out (fun q m g=>by
  rw[Se.1 g]at m;rcases M.out f m with e | e
  ·exact x.out f e Sz
  ·have:=W.out.2 f Sz;omega)
 have al:Hid (dA H f L I p o k):=R.Wj N.out;have ag:Hid (oc S.heap.size b l p o):=by
  rcases n3 with e | e
  ·exact R4 e
  ·exact RZ (Sc (Sc E.out Q.out) e)
 have Z:Hid (∀q,q∈T :: iy d a->q∉f :: (I.blk.toList++iy p o)):=fun q m g=>by
  have U:∀q,q∈f :: (I.blk.toList++iy p o)->q∈f :: (I.blk.toList++iy b l)∨t.heap.size<=q:=fun q g=>by
   rcases Sv.1 g with e | e
   ·exact R4 (by rw[e];exact Sz)
   ·rcases SB.1 e with e | e
    ·exact R4 (Sx _ (Ti _ e))
    ·rcases oc.mem (z:=t.heap.size) (lo:=b) (hi:=l) n3 e with e | e
     ·exact R4 (Sx _ (Tz _ e))
     ·exact RZ e
  have z1:=E.out;have z2:=Q.out;rcases M.out q m with e | e
  ·rcases U q g with u | u
   ·exact x.out q e u
   ·have:=W.out.1 q e;omega
  ·rcases U q g with u | u
   ·have:=W.out.2 q u;omega
   ·omega
 have v:=A.out.get Y.out (by have:=W.out.2 f Sz;have:=E.out;simp;omega);have ad:Hid (aa ([T]++f :: I.blk.toList) S H):=(O.out.mono (fun q m _=>Ti _ m)).trans (A.out.mono (fun q m _=>Tz _ (by rw[Se.1 m];exact Sz)));rw[C.out];clear R k2 n3;obtain⟨⟨a0,a1,a2,a3⟩,-,az⟩:=nh v;obtain⟨⟨b0,b1,b2,b3⟩,-,bz⟩:=nh K;clear v K;go_wp2;go_ret;exact⟨rfl,⟨k,d,a,p,o,ao.out,P.out,al.out,ag.out,Z.out⟩,ad.out⟩
theorem zz{L:List Nat}(o:aC v s (lQ y L)){k x:Nat}(c:L[k]?=some x):∃g,s.ao=some ⟨g,0,none⟩/\g<v.heap.size/\v.cell? ⟨g,k,none⟩=some (OQ x):=by
 have i:=(R8.1 c).1;rcases o.Wu with ⟨_,b,_⟩ | ⟨g,d,a,e,f,-⟩
 ·have b:L.length=0:=b;omega
 ·exact⟨g,a,ae e,o.cell a k (OQ x) (by show(L.map OQ)[k]?=_;rw[Sy,c];rfl)⟩
theorem LF(h:dc y3 y2=0):y2.size<=1024:=by
 unfold dc at h;split at h
 ·cases h
 ·split at h
  ·cases h
  ·omega
theorem Qv(h:zV H)(n d:ByteArray):zV (fm H n d).2:=by
 unfold fm;split
 ·exact h
 ·next c =>
  have b:=LF (Decidable.not_not.1 c);split
  ·intro j a;rw[SS]at a;have:=h j a;unfold ak at *;rw[RT]at *;rw[Tl];split
   ·split
    ·exact b
    ·show(0:Nat)<=_;omega
   ·exact this
  ·split
   ·exact h
   ·intro j a;rw[R9]at a;replace a:j<H.length+1:=a;unfold ak;rw[RT];by_cases e:j<H.length
    ·have:=h j e;unfold ak at this;rw[RT]at this;rw[Si e];exact this
    ·rw[Sf (by omega),show j-H.length=0 by omega];exact b
theorem Ms(h:zV H)(a:Fs):zV (jK H a):=by
 unfold jK;split
 ·next e=>exact(Ow e).2
 ·exact h
theorem cd.both{x m M L A w p i t o:Nat}(a:cd v y zb d N)(C:d.V[z0]?=some (x,m,H))(J:zb (6,z0)=Qe x H M L zt)(K:zb (7,z0)=Qd m s H A w zt)(R:dJ y0 x u p i z4)(Q:dA y0 m u y1 t o z4)(W:oc v.heap.size M L p i)(X:oc v.heap.size A w t o)(O:∀q,y1.blk=some q->s.blk=some q∨v.heap.size<=q)(P:∀q,q∈x :: iy p i->q∉m :: (y1.blk.toList++iy t o))(k:aa ([x]++m :: s.blk.toList) v y0)(D:zV u):∃E F,cd y0 y E F (N+1)/\rH zb d E F:=by
 have Y:=a.sep.put2 (6,z0) (7,z0) (bu (by decide)) (Qe x u p i z4) (Qd m y1 u t o z4) (by
  rw[J,K];refine k.mono (fun q z _=>?_);rcases SB.1 z with e | e
  ·exact Ti _ (by rw[Se.1 e];exact Sz)
  ·refine Tz _ ?_;rcases Sv.1 e with e | e
   ·rw[e];exact Sz
   ·exact Sx _ (Ti _ e)) R Q (fun q z=>by
  rw[J];rcases Sv.1 z with e | e
  ·exact R4 (by rw[e];exact Sz)
  ·rcases W.mem e with b | b
   ·exact R4 (Sx _ b)
   ·exact RZ b) (fun q z=>by
  rw[K];rcases Sv.1 z with e | e
  ·exact R4 (by rw[e];exact Sz)
  ·rcases SB.1 e with e | e
   ·rcases O q (aQ e) with b | b
    ·exact R4 (Sx _ (Ti _ (by rw[b];simp)))
    ·exact RZ b
   ·rcases X.mem e with b | b
    ·exact R4 (Sx _ (Tz _ b))
    ·exact RZ b) P
 have G:∀f:Nat×Nat×Fs->Nat,f (x,m,u)=f (x,m,H)->(d.V.set z0 (x,m,u)).map f=d.V.map f:=fun f D=>by
  rw[UE,D];apply TY;intro j;rw[Tl];by_cases I:z0=j
  ·subst I;have:=(R8.1 C).1;rw[RY rfl,Sy,C];simp[this]
  ·rw[RU I]
 refine⟨_,{ d with V:=d.V.set z0 (x,m,u) },⟨Y,?_,?_,?_,?_,?_,?_,?_,?_,?_,?_,?_⟩,?_⟩
 ·rw[RM _ _ (bu (by decide)),RM _ _ (bu (by decide)),a.w0];unfold Mc.cells;rw[SS]
 ·rw[RM _ _ (bu (by decide)),RM _ _ (bu (by decide)),G _ rfl];exact a.x
 ·rw[RM _ _ (bu (by decide)),RM _ _ (bu (by decide)),G _ rfl];exact a.m
 ·simp only[fw];exact a.r
 ·simp only[fw];exact a.ls
 ·simp only[fw];exact a.lw
 ·intro j B n g c;replace c:(d.V.set z0 (x,m,u))[j]?=some (B,n,g):=c;rw[Tl]at c;rw[RM _ _ (bu (by decide))];by_cases e:z0=j
  ·subst e;rw[RY rfl,RY (R8.1 C).1]at c;cases c
   rw[bP,bP];exact⟨⟨_,_,_,_,_,_,rfl,rfl⟩,D⟩
  ·rw[RU e]at c;rw[RM _ _ (rV (Ne.symm e)),RM _ _ (rV (Ne.symm e)),RM _ _ (bu (by decide))];exact a.v j B n g c
 ·intro j B n g c;simp only[fw];exact a.more.l j B n g c
 ·exact a.fit
 ·obtain⟨S,T,U⟩:=a.more.len;exact⟨by show(d.V.set z0 (x,m,u)).length<=_;rw[SS];exact S,T,U⟩
 ·exact a.rng
 ·exact⟨fun j z0 c=>by(repeat rw[pm (by decide) c]),rfl,rfl⟩
theorem iO(D:Int)(s a:ByteArray)(c:World)(h:cd c b M w l)(j:∀W,cd W b M w l->Calls prog 12 #[pointer (some ⟨b,0,none⟩),agg #[int i64 t,int i64 m,int i64 z6,int i64 D,string s,string a]] W fun e d=>iU b M w l true e d) :
  Calls prog 10 #[pointer (some ⟨b,0,none⟩),agg #[int i64 t,int i64 m,int i64 z6,int i64 D,string s,string a]] c fun e d=>iU b M w l true e d:=by
 obtain⟨W,f⟩:∃W,Hid (c.alloc (.cells #[int i64 t,int i64 m,int i64 z6,int i64 D,string s,string a] 28)=W):=⟨_,rfl⟩
 obtain⟨i,g,o,-⟩:=h.boxed t m z6 D s a W f.out;obtain⟨p,q,r,u,v,x,y⟩:=dV g;have k:Hid _:=j W i;clear h i g j;go_enter func10,ntmps10;go_upto_region 1 with fail
 rw[f.out];go_wp2_with (go_at_call 12;refine R0 k.out ?_;rintro e z ⟨rfl,n⟩);go_ret;exact⟨rfl,n⟩
end Go.Proofs.YtnbhnocdhbcbcaaGreat
