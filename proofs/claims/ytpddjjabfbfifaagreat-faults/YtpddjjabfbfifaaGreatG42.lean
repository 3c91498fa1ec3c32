import Derived.Test.YtpddjjabfbfifaaGreatG41
namespace Go.Proofs.YtpddjjabfbfifaaGreat
open Go.RowKit
set_option maxHeartbeats 40000000
theorem Gw:(Tryz.prog.info? 33).map (fun i=>(i.zero,i.size,i.bytes))=some (some (.slice none 0 0),1,24):=by kernel_rfl
theorem oj(L:List (Option Nat×Fs))(x:Option Nat×Fs):(⟨(fQ L).e,(fQ L).size,(fQ L).n+1,(fQ L).xs++[xn x]⟩:dK)=fQ (L++[x]):=by
 simp[fQ]
theorem aA.srcO{w:World}{h:Hd}{fs:Fs}(o:aA w h (b8 fs)):jM w h.ao fs:=by
 intro k hk;obtain⟨g,e,hg,c0,c1⟩:=o.srcFi.2 k hk;exact⟨g,0,e,hg,by rw[Nat.zero_add];exact c0,by rw[Nat.zero_add];exact c1⟩
theorem bM.addL{w w7:World}{b N:Nat}{a c:Option Nat}{fs:Fs}{I J:Nat×Nat->It}{M:Mc}{h5 h7:Hd}(h:bM w b I M N)(hf:ke fs)(hl:fs.length<=N+1)
  (hJ:J=ff (ff (ff I (8,M.L.length) (rN a fs)) (4,0) (dd h5 (fQ (M.L.map (fun l=>(l.1,l.2.2))++[(a,fs)])))) (0,0) (pX b 42 (M.cells.set 3 (.slice h5.ao (M.L.length+1) h5.cap))))
  (s7:ny w7 (ff (ff (ff J (9,M.L.length) (rN c fs)) (5,0) (dd h7 (fQ (M.L.map (fun l=>(l.2.1,l.2.2))++[(c,fs)])))) (0,0) (pX b 42 ((M.cells.set 3 (.slice h5.ao (M.L.length+1) h5.cap)).set 4 (.slice h7.ao (M.L.length+1) h7.cap))))) :
  ∃I' M',bM w7 b I' M' (N+1)/\I' (10,0)=I (10,0):=by
 refine⟨_,{ M with hl:=h5,hc:=h7,L:=M.L++[(a,c,fs)] },⟨s7,?_,?_,?_,?_,?_,?_,?_,?_,?_,?_,?_⟩,?_⟩
 ·rw[bS];unfold Mc.cells;rw[List.length_append];rfl
 ·subst hJ;simp only[ff];exact h.x
 ·subst hJ;simp only[ff];exact h.m
 ·subst hJ;simp only[ff];exact h.r
 ·subst hJ;rw[aq _ _ (bA (by decide)),aq _ _ (bA (by decide)),aq _ _ (bA (by decide)),aq _ _ (bA (by decide)),bS,List.map_append];rfl
 ·rw[aq _ _ (bA (by decide)),bS,List.map_append];rfl
 ·intro i x m fs hi
  subst hJ;simp only[ff];exact h.v i x m fs hi
 ·intro i x m fs' hi
  rw[aq _ _ (bA (by decide)),aq _ _ (bA (by decide)),aq _ _ (bA (by decide)),aq _ _ (bA (by decide)),aq _ _ (bA (by decide))];replace hi:(M.L++[(a,c,fs)])[i]?=some (x,m,fs'):=hi;subst hJ;rw[aq _ _ (bA (by decide)),aq _ _ (bA (by decide))]
  by_cases e:i<M.L.length
  ·rw[List.getElem?_append_left e]at hi
   rw[aq _ _ (tX (by omega)),aq _ _ (tX (by omega)),aq _ _ (bA (by decide)),aq _ _ (bA (by decide)),aq _ _ (bA (by decide))];exact h.more.l i x m fs' hi
  ·have e2:i=M.L.length:=by
    have:=(List.getElem?_eq_some_iff.1 hi).1;rw[List.length_append]at this;have:i<M.L.length+1:=this;omega
   subst e2;rw[List.getElem?_append_right (Nat.le_refl _),Nat.sub_self]at hi
   cases hi
   rw[bS,bS];exact⟨rfl,rfl,hf,hl⟩
 ·exact h.fit
 ·refine⟨h.more.len.1,h.more.len.2.1,?_⟩
  have:=h.len.2.2
  show(M.L++[(a,c,fs)]).length<=_
  rw[List.length_append];show _+1<=_;omega
 ·exact h.rng
 ·subst hJ;simp only[ff];rfl
theorem ny.rowAt{w:World}{I:Nat×Nat->It}{b T:Nat}{c:List Value}{k:Nat×Nat}{hd:Hd}{r:dK}(s:ny w I)(e0:I (0,0)=pX b T c)(hk:k≠(0,0))(e:I k=dd hd r):w.heap[b]?=some (.cells c.toArray T (0,0))/\aA w hd r/\b∉hd.blk.toList:=by
 refine⟨?_,?_,fun hq=>s.far (0,0) k (Ne.symm hk) b (by rw[e0];exact List.mem_singleton.2 rfl) (by rw[e];exact hq)⟩
 ·have:=s.all (0,0);rw[e0]at this;exact this
 ·have:=s.all k;rw[e]at this;exact this
set_option maxRecDepth 100000 in
theorem KE(b N:Nat)(I:Nat×Nat->It)(M:Mc)(A C D:Int)(s t:ByteArray)(w:World)(h:bM w b I M N)(hN:N<=1073741824) :
  Calls Tryz.prog 11 #[.pointer (some ⟨b,0,none⟩),.agg #[.int .i64 5,.int .i64 A,.int .i64 C,.int .i64 D,.string s,.string t]] w fun e w'=>go b I N true e w':=by
 obtain⟨W,HW⟩:∃W,Hid (w.alloc (.cells #[.int .i64 5,.int .i64 A,.int .i64 C,.int .i64 D,.string s,.string t] 28)=W):=⟨_,rfl⟩
 obtain⟨hM,hB,hbw,-⟩:=h.boxed 5 A C D s t W HW.out;obtain⟨o0,-⟩:=dZ hB;have oz:=ae hB;obtain⟨iX,hiX,hzX0,hzX1,hzX2⟩:=info_parts Gw;have HM:Hid (bM W b I M N):=hM;have hPx:Hid ((fQ (M.L.map (fun l=>(l.1,l.2.2)))).n<=4294967296):=by show(M.L.map _).length<=_;rw[List.length_map];have:=h.len.2.2;omega
 have hPm:Hid ((fQ (M.L.map (fun l=>(l.2.1,l.2.2)))).n<=4294967296):=by show(M.L.map _).length<=_;rw[List.length_map];have:=h.len.2.2;omega
 have HXn:Hid ((fQ (M.L.map (fun l=>(l.1,l.2.2)))).n=M.L.length):=List.length_map _;have HMn:Hid ((fQ (M.L.map (fun l=>(l.2.1,l.2.2)))).n=M.L.length):=List.length_map _;have S1:Hid (ny W (ff I (8,M.L.length) (rN none []))):=hM.sep.put _ _ (ab.refl _ _) ⟨fun _=>rfl,fun b e=>by cases e⟩ (fun q hq=>by cases hq);obtain⟨J,HJ⟩:∃J,Hid (J=ff I (8,M.L.length) (rN none [])):=⟨_,rfl⟩
 rw[<-HJ.out]at S1;have hJ0:Hid (J (0,0)=pX b 42 M.cells):=by show _=_;rw[HJ.out,aq _ _ (bA (by decide))];exact hM.w0
 have hJ4:Hid (J (4,0)=dd M.hl (fQ (M.L.map (fun l=>(l.1,l.2.2))))):=by show _=_;rw[HJ.out,aq _ _ (bA (by decide))];exact hM.ls
 have hJ5:Hid (J (5,0)=dd M.hc (fQ (M.L.map (fun l=>(l.2.1,l.2.2))))):=by show _=_;rw[HJ.out,aq _ _ (bA (by decide))];exact hM.lw
 obtain⟨p1,hOw,far1⟩:=S1.out.rowAt hJ0.out (bA (by decide)) hJ4.out;have HP1:Hid (W.heap[b]?=some (.cells M.cells.toArray 42 (0,0))/\b∉M.hl.blk.toList):=⟨p1,far1⟩;have c0:W.cell? ⟨b,3,none⟩=some (.slice M.hl.ao M.L.length M.hl.cap):=by rw[aa p1];rfl
 have fb:=ak p1;have bz:=ae p1;clear h hM hB p1 far1;go_enter Tryz.func11,Tryz.ntmps11
 go_upto_region 1 with fail
 rw[HW.out]
 go_upto_region 22 with (at_builtin;refine dc W rfl (.tmp 105) (.tmp 106) 34 rfl iX (.slice none 0 0) 24 M.hl (fQ (M.L.map (fun l=>(l.1,l.2.2)))) [xn (none,[])] Tryz.underlying34 hiX hzX0 hzX1 hzX2 rfl Nat.one_pos (by rw[HXn.out];simp[Act.eval]) hOw hPx.out (by omega) (by simp[Act.eval]) rfl (by simp[xn,Value.oneCell']) ?_;intro h5 w5 hw5 hg5;rw[oj]at hw5;have p5:=hg5.kept.get HP1.out.1 HP1.out.2;have f5:=ak p5;have c5:w5.cell? ⟨b,3,none⟩=some (.slice M.hl.ao M.L.length M.hl.cap):=(by rw[aa p5];rfl);have z5:=ae p5)
 rw[HXn.out];have S5:=(show Hid _ from S1.out.grown hJ0.out (bA (by decide)) hJ4.out hg5 hw5 3 (.slice h5.ao (M.L.length+1) h5.cap));obtain⟨w6,Hw6⟩:∃w6,Hid (w5.setCell ⟨b,3,none⟩ (.slice h5.ao (M.L.length+1) h5.cap)=w6):=⟨_,rfl⟩
 rw[Hw6.out]at S5 ⊢;obtain⟨J6,hJ6⟩:∃J6,J6=ff (ff J (4,0) (dd h5 (fQ (M.L.map (fun l=>(l.1,l.2.2))++[(none,[])])))) (0,0) (pX b 42 (M.cells.set 3 (.slice h5.ao (M.L.length+1) h5.cap))):=⟨_,rfl⟩
 have HJ6:=(show Hid _ from hJ6);clear hJ6;rw[<-HJ6.out]at S5;have S6:Hid (ny w6 (ff J6 (9,M.L.length) (rN none []))):=S5.out.put _ _ (ab.refl _ _) ⟨fun _=>rfl,fun b e=>by cases e⟩ (fun q hq=>by cases hq);have e60:Hid (ff J6 (9,M.L.length) (rN none []) (0,0)=pX b 42 (M.cells.set 3 (.slice h5.ao (M.L.length+1) h5.cap))):=by show _=_;rw[aq _ _ (bA (by decide)),HJ6.out,bS]
 have e65:Hid (ff J6 (9,M.L.length) (rN none []) (5,0)=dd M.hc (fQ (M.L.map (fun l=>(l.2.1,l.2.2))))):=by show _=_;rw[aq _ _ (bA (by decide)),HJ6.out,aq _ _ (bA (by decide)),aq _ _ (bA (by decide))];exact hJ5.out
 obtain⟨b6,hOw6,far6⟩:=S6.out.rowAt e60.out (bA (by decide)) e65.out;have HP6:Hid (w6.heap[b]?=some (.cells (M.cells.set 3 (.slice h5.ao (M.L.length+1) h5.cap)).toArray 42 (0,0))/\b∉M.hc.blk.toList):=⟨b6,far6⟩;clear p5 f5 c5 z5 hw5 hg5 c0 fb bz hOw;have c1:w6.cell? ⟨b,4,none⟩=some (.slice M.hc.ao M.L.length M.hc.cap):=by rw[aa b6];rfl
 have fb:=ak b6;have bz:=ae b6;clear b6 far6;go_wp2_with (at_builtin;refine dc w6 rfl (.tmp 115) (.tmp 116) 34 rfl iX (.slice none 0 0) 24 M.hc (fQ (M.L.map (fun l=>(l.2.1,l.2.2)))) [xn (none,[])] Tryz.underlying34 hiX hzX0 hzX1 hzX2 rfl Nat.one_pos (by rw[HMn.out];simp[Act.eval]) hOw6 hPm.out (by omega) (by simp[Act.eval]) rfl (by simp[xn,Value.oneCell']) ?_;intro h7 w7 hw7 hg7;rw[oj]at hw7;have p7:=hg7.kept.get HP6.out.1 HP6.out.2;have f7:=ak p7;have c7:w7.cell? ⟨b,4,none⟩=some (.slice M.hc.ao M.L.length M.hc.cap):=(by rw[aa p7];rfl);have z7:=ae p7;rw[HMn.out]);go_ret;have S7:=S6.out.grown e60.out (bA (by decide)) e65.out hg7 hw7 4 (.slice h7.ao (M.L.length+1) h7.cap);exact⟨rfl,HM.out.addL (a:=none) (c:=none) (fs:=[]) (fun j=>⟨by show(0:Nat)<=_;omega,by show(0:Nat)<=_;omega⟩) (Nat.zero_le _) (by rw[HJ6.out,HJ.out]) S7⟩
set_option maxRecDepth 100000 in
theorem KD(b N:Nat)(I:Nat×Nat->It)(M:Mc)(A C D:Int)(s t:ByteArray)(w:World)(h:bM w b I M N)(hN:N<=1073741824) :
  Calls Tryz.prog 11 #[.pointer (some ⟨b,0,none⟩),.agg #[.int .i64 4,.int .i64 A,.int .i64 C,.int .i64 D,.string s,.string t]] w fun e w'=>go b I N true e w':=by
 obtain⟨W,HW⟩:∃W,Hid (w.alloc (.cells #[.int .i64 4,.int .i64 A,.int .i64 C,.int .i64 D,.string s,.string t] 28)=W):=⟨_,rfl⟩
 obtain⟨hM,hB,hbw,-⟩:=h.boxed 4 A C D s t W HW.out;obtain⟨o0,-⟩:=dZ hB;have oz:=ae hB;obtain⟨iX,hiX,hzX0,hzX1,hzX2⟩:=info_parts Gw;have HM:Hid (bM W b I M N):=hM;have HRL:Hid (M.reg.length<=N):=h.len.2.1;have hPx:Hid ((fQ (M.L.map (fun l=>(l.1,l.2.2)))).n<=4294967296):=by show(M.L.map _).length<=_;rw[List.length_map];have:=h.len.2.2;omega
 have hPm:Hid ((fQ (M.L.map (fun l=>(l.2.1,l.2.2)))).n<=4294967296):=by show(M.L.map _).length<=_;rw[List.length_map];have:=h.len.2.2;omega
 have HXn:Hid ((fQ (M.L.map (fun l=>(l.1,l.2.2)))).n=M.L.length):=List.length_map _;have HMn:Hid ((fQ (M.L.map (fun l=>(l.2.1,l.2.2)))).n=M.L.length):=List.length_map _;have HCF:Hid (Calls Tryz.prog 29 #[.slice M.hr.ao M.reg.length M.hr.cap] W _):=iE M.hr.ao M.hr.cap M.reg W hM.ownR.srcO (by have:=HRL.out;omega);have c2:W.cell? ⟨b,2,none⟩=some (.slice M.hr.ao M.reg.length M.hr.cap):=by rw[aa hM.blk];rfl
 have bz:=ae hM.blk;clear h hM hB;go_enter Tryz.func11,Tryz.ntmps11
 go_upto_region 1 with fail
 rw[HW.out]
 go_upto_region 14 with (go_at_call 29;refine Calls.mono HCF.out ?_;rintro e w1 ⟨rfl,hb1,k1⟩)
 have S1:Hid (ny w1 (ff I (8,M.L.length) (rN (some W.heap.size) M.reg))):=HM.out.sep.put _ _ (k1.mono (by simp)) ⟨(fun e=>by cases e),(fun q e=>by cases e;exact hb1)⟩ (fun q hq=>Or.inr (by rw[List.mem_singleton.1 hq];exact Nat.le_refl _));obtain⟨B1,HB1⟩:∃B1,Hid (W.heap.size=B1):=⟨_,rfl⟩
 rw[HB1.out]at S1 ⊢;obtain⟨J,HJ⟩:∃J,Hid (J=ff I (8,M.L.length) (rN (some B1) M.reg)):=⟨_,rfl⟩
 rw[<-HJ.out]at S1;have hJ0:Hid (J (0,0)=pX b 42 M.cells):=by show _=_;rw[HJ.out,aq _ _ (bA (by decide))];exact HM.out.w0
 have hJ3:Hid (J (3,0)=dd M.hr (b8 M.reg)):=by show _=_;rw[HJ.out,aq _ _ (bA (by decide))];exact HM.out.r
 have hJ4:Hid (J (4,0)=dd M.hl (fQ (M.L.map (fun l=>(l.1,l.2.2))))):=by show _=_;rw[HJ.out,aq _ _ (bA (by decide))];exact HM.out.ls
 have hJ5:Hid (J (5,0)=dd M.hc (fQ (M.L.map (fun l=>(l.2.1,l.2.2))))):=by show _=_;rw[HJ.out,aq _ _ (bA (by decide))];exact HM.out.lw
 obtain⟨p1,hOw,far1⟩:=S1.out.rowAt hJ0.out (bA (by decide)) hJ4.out;have HP1:Hid (w1.heap[b]?=some (.cells M.cells.toArray 42 (0,0))/\b∉M.hl.blk.toList):=⟨p1,far1⟩;have c0:w1.cell? ⟨b,3,none⟩=some (.slice M.hl.ao M.L.length M.hl.cap):=by rw[aa p1];rfl
 have fb:=ak p1;clear bz;have bz:=ae p1;clear p1 far1 c2 k1 hb1
 go_upto_region 16 with (at_builtin;refine dc w1 rfl (.tmp 76) (.tmp 78) 34 rfl iX (.slice none 0 0) 24 M.hl (fQ (M.L.map (fun l=>(l.1,l.2.2)))) [xn (some B1,M.reg)] Tryz.underlying34 hiX hzX0 hzX1 hzX2 rfl Nat.one_pos (by rw[HXn.out];simp[Act.eval]) hOw hPx.out (by omega) (by simp[Act.eval]) rfl (by simp[xn,Value.oneCell']) ?_;intro h5 w5 hw5 hg5;rw[oj]at hw5;have p5:=hg5.kept.get HP1.out.1 HP1.out.2;have f5:=ak p5;have c5:w5.cell? ⟨b,3,none⟩=some (.slice M.hl.ao M.L.length M.hl.cap):=(by rw[aa p5];rfl);have z5:=ae p5)
 rw[HXn.out];have S5:=(show Hid _ from S1.out.grown hJ0.out (bA (by decide)) hJ4.out hg5 hw5 3 (.slice h5.ao (M.L.length+1) h5.cap));obtain⟨w6,Hw6⟩:∃w6,Hid (w5.setCell ⟨b,3,none⟩ (.slice h5.ao (M.L.length+1) h5.cap)=w6):=⟨_,rfl⟩
 rw[Hw6.out]at S5 ⊢;obtain⟨J6,hJ6⟩:∃J6,J6=ff (ff J (4,0) (dd h5 (fQ (M.L.map (fun l=>(l.1,l.2.2))++[(some B1,M.reg)])))) (0,0) (pX b 42 (M.cells.set 3 (.slice h5.ao (M.L.length+1) h5.cap))):=⟨_,rfl⟩
 have HJ6:=(show Hid _ from hJ6);clear hJ6;rw[<-HJ6.out]at S5;have e63:Hid (J6 (3,0)=dd M.hr (b8 M.reg)):=by show _=_;rw[HJ6.out,aq _ _ (bA (by decide)),aq _ _ (bA (by decide))];exact hJ3.out
 have e60':Hid (J6 (0,0)=pX b 42 (M.cells.set 3 (.slice h5.ao (M.L.length+1) h5.cap))):=by show _=_;rw[HJ6.out,bS]
 obtain⟨b6,hOwR,-⟩:=S5.out.rowAt e60'.out (bA (by decide)) e63.out;have HCF2:Hid (Calls Tryz.prog 29 #[.slice M.hr.ao M.reg.length M.hr.cap] w6 _):=iE M.hr.ao M.hr.cap M.reg w6 hOwR.srcO (by have:=HRL.out;omega);clear p5 f5 c5 z5 hw5 hg5 c0 fb bz hOw hOwR;have c2:w6.cell? ⟨b,2,none⟩=some (.slice M.hr.ao M.reg.length M.hr.cap):=by rw[aa b6];rfl
 have bz:=ae b6;clear b6
 go_upto_region 17 with (go_at_call 29;refine Calls.mono HCF2.out ?_;rintro e w8 ⟨rfl,hb2,k2⟩)
 have S6:Hid (ny w8 (ff J6 (9,M.L.length) (rN (some w6.heap.size) M.reg))):=S5.out.put _ _ (k2.mono (by simp)) ⟨(fun e=>by cases e),(fun q e=>by cases e;exact hb2)⟩ (fun q hq=>Or.inr (by rw[List.mem_singleton.1 hq];exact Nat.le_refl _));obtain⟨B2,HB2⟩:∃B2,Hid (w6.heap.size=B2):=⟨_,rfl⟩
 rw[HB2.out]at S6 ⊢;clear c2 bz k2 hb2;have e60:Hid (ff J6 (9,M.L.length) (rN (some B2) M.reg) (0,0)=pX b 42 (M.cells.set 3 (.slice h5.ao (M.L.length+1) h5.cap))):=by show _=_;rw[aq _ _ (bA (by decide))];exact e60'.out
 have e65:Hid (ff J6 (9,M.L.length) (rN (some B2) M.reg) (5,0)=dd M.hc (fQ (M.L.map (fun l=>(l.2.1,l.2.2))))):=by show _=_;rw[aq _ _ (bA (by decide)),HJ6.out,aq _ _ (bA (by decide)),aq _ _ (bA (by decide))];exact hJ5.out
 obtain⟨b6,hOw6,far6⟩:=S6.out.rowAt e60.out (bA (by decide)) e65.out;have HP6:Hid (w8.heap[b]?=some (.cells (M.cells.set 3 (.slice h5.ao (M.L.length+1) h5.cap)).toArray 42 (0,0))/\b∉M.hc.blk.toList):=⟨b6,far6⟩;have c1:w8.cell? ⟨b,4,none⟩=some (.slice M.hc.ao M.L.length M.hc.cap):=by rw[aa b6];rfl
 have fb:=ak b6;have bz:=ae b6;clear b6 far6;go_wp2_with (at_builtin;refine dc w8 rfl (.tmp 92) (.tmp 94) 34 rfl iX (.slice none 0 0) 24 M.hc (fQ (M.L.map (fun l=>(l.2.1,l.2.2)))) [xn (some B2,M.reg)] Tryz.underlying34 hiX hzX0 hzX1 hzX2 rfl Nat.one_pos (by rw[HMn.out];simp[Act.eval]) hOw6 hPm.out (by omega) (by simp[Act.eval]) rfl (by simp[xn,Value.oneCell']) ?_;intro h7 w7 hw7 hg7;rw[oj]at hw7;have p7:=hg7.kept.get HP6.out.1 HP6.out.2;have f7:=ak p7;have c7:w7.cell? ⟨b,4,none⟩=some (.slice M.hc.ao M.L.length M.hc.cap):=(by rw[aa p7];rfl);have z7:=ae p7;rw[HMn.out]);go_ret;have S7:=S6.out.grown e60.out (bA (by decide)) e65.out hg7 hw7 4 (.slice h7.ao (M.L.length+1) h7.cap);exact⟨rfl,HM.out.addL (a:=some B1) (c:=some B2) (fs:=M.reg) HM.out.fit (by have:=HRL.out;omega) (by rw[HJ6.out,HJ.out]) S7⟩
theorem CN{L:List (Option Nat×Option Nat×Fs)}{k:Nat}{a c:Option Nat}{fs fs':Fs}(hk:L[k]?=some (a,c,fs))(f:Option Nat×Option Nat×Fs->Option Nat×Fs)(hf:xn (f (a,c,fs'))=xn (f (a,c,fs))):fQ ((L.set k (a,c,fs')).map f)=fQ (L.map f):=by
 unfold fQ
 have e:((L.set k (a,c,fs')).map f).map xn=(L.map f).map xn:=by
  rw[List.map_set,List.map_set,hf]
  apply List.ext_getElem?
  intro j;rw[List.getElem?_set]
  by_cases ej:k=j
  ·subst ej
   rw[if_pos rfl,List.getElem?_map,List.getElem?_map,hk];have:=(List.getElem?_eq_some_iff.1 hk).1;simp[this]
  ·rw[if_neg ej]
 rw[e,List.length_map,List.length_set,List.length_map]
theorem DJ{fs:Fs}(h:ke fs)(i:Nat){n d:ByteArray}(hn:n.size<=1073741824)(hd:d.size<=1073741824):ke (fs.set i (n,d)):=by
 intro j;have:=h j;unfold aC aj at *;rw[List.getD_eq_getElem?_getD]at *;rw[List.getElem?_set]
 by_cases e:i=j
 ·subst e
  rw[if_pos rfl]
  split
  ·exact⟨hn,hd⟩
  ·exact⟨by show(0:Nat)<=_;omega,by show(0:Nat)<=_;omega⟩
 ·rw[if_neg e];exact this
theorem bM.wrote{w w4:World}{b N k:Nat}{a c:Option Nat}{fs fs':Fs}{I:Nat×Nat->It}{M:Mc}(h:bM w b I M N)(hk:M.L[k]?=some (a,c,fs))(hl:fs'.length=fs.length)(hf:ke fs')(s4:ny w4 (ff (ff I (8,k) (rN a fs')) (9,k) (rN c fs'))):∃I' M',bM w4 b I' M' (N+1)/\I' (10,0)=I (10,0):=by
 refine⟨_,{ M with L:=M.L.set k (a,c,fs') },⟨s4,?_,?_,?_,?_,?_,?_,?_,?_,?_,?_,?_⟩,?_⟩
 ·rw[aq _ _ (bA (by decide)),aq _ _ (bA (by decide)),h.w0];unfold Mc.cells;rw[List.length_set]
 ·simp only[ff];exact h.x
 ·simp only[ff];exact h.m
 ·simp only[ff];exact h.r
 ·rw[aq _ _ (bA (by decide)),aq _ _ (bA (by decide)),h.ls]
  congr 1
  exact(CN hk (fun l=>(l.1,l.2.2)) (by simp only[xn,hl])).symm
 ·rw[aq _ _ (bA (by decide)),aq _ _ (bA (by decide)),h.lw]
  congr 1
  exact(CN hk (fun l=>(l.2.1,l.2.2)) (by simp only[xn,hl])).symm
 ·intro i x m fs hi
  simp only[ff];exact h.v i x m fs hi
 ·intro i x m fs2 hi
  replace hi:(M.L.set k (a,c,fs'))[i]?=some (x,m,fs2):=hi;rw[List.getElem?_set]at hi;rw[aq _ _ (bA (by decide))]
  by_cases e:k=i
  ·subst e
   rw[if_pos rfl,if_pos (List.getElem?_eq_some_iff.1 hk).1]at hi
   cases hi
   obtain⟨-,-,-,h4⟩:=h.l k a c fs hk;rw[bS,bS];exact⟨rfl,rfl,hf,by omega⟩
  ·rw[if_neg e]at hi
   rw[aq _ _ (tX (Ne.symm e)),aq _ _ (tX (Ne.symm e)),aq _ _ (bA (by decide))];exact h.more.l i x m fs2 hi
 ·exact h.fit
 ·obtain⟨h1,h2,h3⟩:=h.more.len
  exact⟨h1,h2,by show(M.L.set k (a,c,fs')).length<=_;rw[List.length_set];exact h3⟩
 ·exact h.rng
 ·simp only[ff];rfl
theorem gC.wrote{w:World}{ba i:Nat}{fs:Fs}(h:gC w (some ba) fs)(hi:i<fs.length)(n d:ByteArray):gC ((w.setCell ⟨ba,i*2,none⟩ (.string n)).setCell ⟨ba,i*2+1,none⟩ (.string d)) (some ba) (fs.set i (n,d))/\ab [ba] w ((w.setCell ⟨ba,i*2,none⟩ (.string n)).setCell ⟨ba,i*2+1,none⟩ (.string d)):=by
 refine⟨⟨(fun e=>by cases e),fun q e=>?_⟩,((ab.refl _ _).setCell (Or.inl (by simp)) _).setCell (Or.inl (by simp)) _⟩
 cases e
 rw[ah (ah (h.blk ba rfl) _ _) _ _,List.setIfInBounds_toArray,List.setIfInBounds_toArray,CD fs i n d hi]
theorem gC.cells{w:World}{ba i:Nat}{fs:Fs}(h:gC w (some ba) fs)(hi:i<fs.length):(w.cell? ⟨ba,i*2,none⟩=some (.string (aC fs i))/\w.cell? ⟨ba,i*2+1,none⟩=some (.string (aj fs i)))/\(∀j,w.frozen? ⟨ba,j,none⟩=false)/\ba<w.heap.size:=by
 have hb:=h.blk ba rfl;obtain⟨f0,f1⟩:=tH fs i hi;exact⟨⟨by rw[aa hb];simpa using f0,by rw[aa hb];simpa using f1⟩,ak hb,ae hb⟩
theorem md{w:World}{h:Hd}{L:List (Option Nat×Fs)}(o:aA w h (fQ L)){k:Nat}{x:Option Nat×Fs}(hk:L[k]?=some x):∃g,h.ao=some ⟨g,0,none⟩/\g<w.heap.size/\w.cell? ⟨g,k,none⟩=some (xn x):=by
 have hl:=(List.getElem?_eq_some_iff.1 hk).1
 rcases o.ways with ⟨_,h0,_⟩ | ⟨g,cur,e1,e2,e3,-⟩
 ·have h0:L.length=0:=h0
  omega
 ·exact⟨g,e1,ae e2,o.cell e1 k (xn x) (by show(L.map xn)[k]?=_;rw[List.getElem?_map,hk];rfl)⟩
set_option maxRecDepth 100000 in
theorem KG(b N:Nat)(I:Nat×Nat->It)(M:Mc)(A C D:Int)(s t:ByteArray)(w:World)(h:bM w b I M N)(hN:N<=1073741824)(hA:qC A)(hC:qC C)(hs:s.size<=1073741824)(ht:t.size<=1073741824) :
  Calls Tryz.prog 11 #[.pointer (some ⟨b,0,none⟩),.agg #[.int .i64 6,.int .i64 A,.int .i64 C,.int .i64 D,.string s,.string t]] w fun e w'=>go b I N true e w':=by
 obtain⟨W,HW⟩:∃W,Hid (w.alloc (.cells #[.int .i64 6,.int .i64 A,.int .i64 C,.int .i64 D,.string s,.string t] 28)=W):=⟨_,rfl⟩
 obtain⟨hM,hB,hbw,-⟩:=h.boxed 6 A C D s t W HW.out;obtain⟨o0,o1,o2,o3,o4,o5,oz⟩:=dZ hB;have bz:=ae hM.blk;have c3:W.cell? ⟨b,3,none⟩=some (.slice M.hl.ao M.L.length M.hl.cap):=by rw[aa hM.blk];rfl
 by_cases hL:M.L.length=0
 ·have HF:Hid (bM W b I M N):=hM
  rw[hL]at c3;clear h hM hB;go_enter Tryz.func11,Tryz.ntmps11
  go_upto_region 1 with fail
  rw[HW.out];go_wp2;go_ret;exact⟨rfl,_,_,HF.out.more,rfl⟩
 ·have hLn:=h.len.2.2
  have HPK:Hid (∀wx,Calls Tryz.prog 12 #[.int .i64 A,.int .i64 M.L.length] wx fun e w'=>e=.returned (.int .i64 (f8 A M.L.length:Nat))/\w'=wx):=fun wx=>ij A M.L.length wx hA ⟨by omega,by omega⟩
  have hkl:=ju A M.L.length (by omega);obtain⟨k,Hk⟩:∃k,Hid (f8 A M.L.length=k):=⟨_,rfl⟩
  rw[Hk.out]at HPK hkl;obtain⟨⟨a,c,fs⟩,hk⟩:∃x,M.L[k]?=some x:=⟨M.L[k],List.getElem?_eq_getElem hkl⟩
  have HM:Hid (bM W b I M N):=hM;obtain⟨hI8,hI9,hfit,hfl⟩:=hM.l k a c fs hk;obtain⟨gl,hgl,gz,gc⟩:=md hM.ownL (k:=k) (x:=(a,fs)) (by rw[List.getElem?_map,hk];rfl);replace gc:W.cell? ⟨gl,k,none⟩=some (.slice (GB a) fs.length fs.length):=gc;rw[hgl]at c3;have hki:(k:Int)<(M.L.length:Int):=by omega
  have hLi:(0:Int)<(M.L.length:Int):=by omega
  have HKk:=(show Hid _ from hk);have H8:=(show Hid _ from hI8);have H9:=(show Hid _ from hI9)
  by_cases hf0:fs.length=0
  ·rw[hf0]at gc
   clear h hM hB hk hI8 hI9 hfit hgl;go_enter Tryz.func11,Tryz.ntmps11
   go_upto_region 1 with fail
   rw[HW.out]
   go_upto_region 26 with fail
   go_quiet ((go_at_call 12;exact Calls.quiet_of_same (HPK.out _)))
   have HF:Hid (bM (W.drewN nq) b I M N):=HM.out.still ((ab.refl [] _).drewN nq);go_wp2;go_ret;exact⟨rfl,_,_,HF.out.more,rfl⟩
  ·have HPI:Hid (∀wx,Calls Tryz.prog 12 #[.int .i64 C,.int .i64 fs.length] wx fun e w'=>e=.returned (.int .i64 (f8 C fs.length:Nat))/\w'=wx):=fun wx=>ij C fs.length wx hC ⟨by omega,by omega⟩
   have hil:=ju C fs.length (by omega);obtain⟨i,Hi⟩:∃i,Hid (f8 C fs.length=i):=⟨_,rfl⟩
   rw[Hi.out]at HPI hil;have hL8:gC W a fs:=by have:=hM.sep.all (8,k);rw[hI8]at this;exact this
   have hL9:gC W c fs:=by have:=hM.sep.all (9,k);rw[hI9]at this;exact this
   obtain⟨ba,rfl⟩:∃ba,a=some ba:=by
    cases a with
    | none=>rw[hL8.nil rfl]at hf0;exact absurd rfl hf0
    | some ba=>exact⟨ba,rfl⟩
   obtain⟨bc,rfl⟩:∃bc,c=some bc:=by
    cases c with
    | none=>rw[hL9.nil rfl]at hf0;exact absurd rfl hf0
    | some bc=>exact⟨bc,rfl⟩
   have hba:=(hL8.cells hil).2.2
   have hneB:ba≠w.heap.size:=by
    intro e;have:=(rN (some ba) fs).lt w (by have:=h.sep.all (8,k);rw[(h.l k _ _ fs hk).1]at this;exact this) ba (List.mem_singleton.2 rfl);omega
   have HBx:=(show Hid _ from hB);have HFIT:Hid (ke (fs.set i (s,t))):=DJ hfit i hs ht;replace gc:W.cell? ⟨gl,k,none⟩=some (.slice (some ⟨ba,0,none⟩) fs.length fs.length):=gc;have hii:(i:Int)<(fs.length:Int):=by omega
   have hfi:(0:Int)<(fs.length:Int):=by omega
   have HNE:=(show Hid _ from hneB)
   have HPK2:Hid (∀W',ab [] W W'->(W'.cell? ⟨w.heap.size,2,none⟩=some (.int .i64 C)/\W'.cell? ⟨w.heap.size,4,none⟩=some (.string s)/\W'.cell? ⟨w.heap.size,5,none⟩=some (.string t)/\w.heap.size<W'.heap.size)/\(W'.cell? ⟨b,3,none⟩=some (.slice (some ⟨gl,0,none⟩) M.L.length M.hl.cap)/\b<W'.heap.size)/\W'.cell? ⟨gl,k,none⟩=some (.slice (some ⟨ba,0,none⟩) fs.length fs.length)/\gl<W'.heap.size):=fun W' kw=>by
    have q:∀g i,g<W.heap.size->W'.cell? ⟨g,i,none⟩=W.cell? ⟨g,i,none⟩:=fun g i hg=>World.cell?_of_block (kw.block g hg (by simp))
    have z:=kw.size;exact⟨⟨by rw[q _ _ oz];exact o2,by rw[q _ _ oz];exact o4,by rw[q _ _ oz];exact o5,by omega⟩,⟨by rw[q _ _ bz];exact c3,by omega⟩,by rw[q _ _ gz];exact gc,by omega⟩
   clear h hM hB hk hI8 hI9 hfit hgl hL8 hL9 hneB hba;go_enter Tryz.func11,Tryz.ntmps11
   go_upto_region 1 with fail
   rw[HW.out]
   go_upto_region 26 with fail
   go_quiet ((go_at_call 12;exact Calls.quiet_of_same (HPK.out _)))
   go_upto_region 28 with fail
   obtain⟨W2,HW2⟩:∃W2,Hid (W.drewN nq=W2):=⟨_,rfl⟩
   rw[HW2.out];have HK2:Hid (ab [] W W2):=by show ab _ _ _;rw[<-HW2.out];exact(ab.refl [] _).drewN nq
   clear o0 o1 o2 o3 o4 o5 oz c3 bz gc gz;obtain⟨⟨o2,o4,o5,oz⟩,⟨c3,bz⟩,gc,gz⟩:=HPK2.out W2 HK2.out
   go_quiet ((go_at_call 12;exact Calls.quiet_of_same (HPI.out _)))
   go_upto_region 29 with fail
   obtain⟨W3,HW3⟩:∃W3,Hid (W2.drewN nq=W3):=⟨_,rfl⟩
   rw[HW3.out];have HK3:Hid (ab [] W W3):=by show ab _ _ _;rw[<-HW3.out];exact HK2.out.drewN nq
   have HM3:Hid (bM W3 b I M N):=HM.out.still HK3.out;have HL8:Hid (gC W3 (some ba) fs):=by show gC _ _ _;have:=HM3.out.sep.all (8,k);rw[H8.out]at this;exact this
   clear o2 o4 o5 oz c3 bz gc gz;obtain⟨⟨o2,o4,o5,oz⟩,⟨c3,bz⟩,gc,gz⟩:=HPK2.out W3 HK3.out;obtain⟨⟨d0,d1⟩,df,dz⟩:=HL8.out.cells hil
   go_region
   all_goals
    obtain⟨W4,HW4⟩:∃W4,Hid (((W3.setCell ⟨ba,i*2,none⟩ (.string s)).setCell ⟨ba,i*2+1,none⟩ (.string t)).drew=W4):=⟨_,rfl⟩
    rw[HW4.out];have HK4:Hid (ab [ba] W3 W4):=by show ab _ _ _;rw[<-HW4.out];exact(HL8.out.wrote hil s t).2.drew
    have S4:Hid (ny W4 (ff I (8,k) (rN (some ba) (fs.set i (s,t))))):=by
     show ny _ _
     refine HM3.out.sep.put _ _ (by rw[H8.out];exact HK4.out) ?_ (fun q hq=>Or.inl (by rw[H8.out];exact hq));rw[<-HW4.out];exact(rN _ _).ok [] _ _ (HL8.out.wrote hil s t).1 (ab.refl [] _).drew (by simp)
    have e40:Hid (ff I (8,k) (rN (some ba) (fs.set i (s,t))) (0,0)=pX b 42 M.cells):=by show _=_;rw[aq _ _ (bA (by decide))];exact HM.out.w0
    have e45:Hid (ff I (8,k) (rN (some ba) (fs.set i (s,t))) (5,0)=dd M.hc (fQ (M.L.map (fun l=>(l.2.1,l.2.2))))):=by show _=_;rw[aq _ _ (bA (by decide))];exact HM.out.lw
    have e49:Hid (ff I (8,k) (rN (some ba) (fs.set i (s,t))) (9,k)=rN (some bc) fs):=by show _=_;rw[aq _ _ (bA (by decide))];exact H9.out
    obtain⟨b4,ow4,-⟩:=S4.out.rowAt e40.out (bA (by decide)) e45.out;have HL9:Hid (gC W4 (some bc) fs):=by show gC _ _ _;have:=S4.out.all (9,k);rw[e49.out]at this;exact this
    obtain⟨gr,hgr,rz,rc⟩:=md ow4 (k:=k) (x:=(some bc,fs)) (by rw[List.getElem?_map,HKk.out];rfl);replace rc:W4.cell? ⟨gr,k,none⟩=some (.slice (some ⟨bc,0,none⟩) fs.length fs.length):=rc;have c4:W4.cell? ⟨b,4,none⟩=some (.slice (some ⟨gr,0,none⟩) M.L.length M.hc.cap):=by rw[aa b4,<-hgr];rfl
    clear d0 d1 df dz o2 o4 o5 oz c3 bz gc gz;obtain⟨⟨d0,d1⟩,df,dz⟩:=HL9.out.cells hil;have bz:=ae b4;have B4:=HK4.out.get (HK3.out.get HBx.out (by simp)) (by simp;exact fun e=>HNE.out e.symm);obtain⟨-,-,-,-,o4,o5,oz⟩:=dZ B4;clear b4 ow4 hgr B4
    go_upto_region 30 with fail
    go_region
    all_goals
     obtain⟨W5,HW5⟩:∃W5,Hid (((W4.setCell ⟨bc,i*2,none⟩ (.string s)).setCell ⟨bc,i*2+1,none⟩ (.string t)).drew=W5):=⟨_,rfl⟩
     rw[HW5.out];have HK5:Hid (ab [bc] W4 W5):=by show ab _ _ _;rw[<-HW5.out];exact(HL9.out.wrote hil s t).2.drew
     have S5:Hid (ny W5 (ff (ff I (8,k) (rN (some ba) (fs.set i (s,t)))) (9,k) (rN (some bc) (fs.set i (s,t))))):=by
      show ny _ _
      refine S4.out.put _ _ (by rw[e49.out];exact HK5.out) ?_ (fun q hq=>Or.inl (by rw[e49.out];exact hq));rw[<-HW5.out];exact(rN _ _).ok [] _ _ (HL9.out.wrote hil s t).1 (ab.refl [] _).drew (by simp)
     go_wp2;go_ret;exact⟨rfl,HM.out.wrote HKk.out List.length_set HFIT.out S5.out⟩
theorem yZ{w:World}{b o k:Nat}{fs:Fs}(h:w.heap[b]?=some (.cells (oD fs).toArray 68 (0,0)))(hk:o+k<fs.length):w.cell? ⟨b,o*2+k*2,none⟩=some (.string (aC fs (o+k)))/\w.cell? ⟨b,o*2+k*2+1,none⟩=some (.string (aj fs (o+k))):=by
 obtain⟨f0,f1⟩:=tH fs (o+k) hk;rw[Nat.add_mul]at f0 f1;exact⟨by rw[aa h];simpa using f0,by rw[aa h];simpa using f1⟩
theorem gC.piece{w:World}{b:Nat}{fs:Fs}(h:w.heap[b]?=some (.cells (oD fs).toArray 68 (0,0)))(o n:Nat)(hn:o+n<=fs.length):jM w (some ⟨b,o*2,none⟩) ((fs.drop o).take n):=by
 intro k hk;rw[List.length_take,List.length_drop]at hk;have e:∀j,j<n->((fs.drop o).take n)[j]?=fs[o+j]?:=fun j hj=>by rw[List.getElem?_take,if_pos hj,List.getElem?_drop]
 obtain⟨c0,c1⟩:=yZ h (o:=o) (k:=k) (by omega);have e1:aC ((fs.drop o).take n) k=aC fs (o+k):=by unfold aC;rw[List.getD_eq_getElem?_getD,List.getD_eq_getElem?_getD,e k (by omega)]
 have e2:aj ((fs.drop o).take n) k=aj fs (o+k):=by unfold aj;rw[List.getD_eq_getElem?_getD,List.getD_eq_getElem?_getD,e k (by omega)]
 exact⟨b,o*2,rfl,ae h,by rw[e1];exact c0,by rw[e2];exact c1⟩
theorem gC.src{w:World}{a:Option Nat}{fs:Fs}(h:gC w a fs):jM w (GB a) fs:=by
 cases a with
 | none=>rw[h.nil rfl];intro k hk;cases hk
 | some b =>
  have:=gC.piece (h.blk b rfl) 0 fs.length (by omega);rw[List.drop_zero,List.take_length,Nat.zero_mul]at this;exact this
set_option maxRecDepth 100000 in
theorem DV(b N:Nat)(I:Nat×Nat->It)(M:Mc)(w:World)(h:bM w b I M N)(hN:N<=1073741825) :
  Calls Tryz.prog 10 #[.pointer (some ⟨b,0,none⟩)] w fun e w'=>e=.returned (.bool true)/\ab [] w w':=by
 have HM:Hid (bM w b I M N):=h;have bz:=ae h.blk;have c15:w.cell? ⟨b,15,none⟩=some (.slice none 0 0):=by rw[aa h.blk];rfl
 have c16:w.cell? ⟨b,16,none⟩=some (.slice none 0 0):=by rw[aa h.blk];rfl
 have hLn:=h.len.2.2;clear h;go_enter Tryz.func10,Tryz.ntmps10;go_wp2
 go_loopg [3] 0 (fun g i wr=>g=0/\i=.int .i64 0/\w=wr)
 case atStart=>exact⟨rfl,rfl,rfl⟩
 case round =>
  obtain⟨hg,rfl,rfl⟩:=hrel;go_wp2
  go_loopg [5] 0 (fun g i wr2=>g=0/\i=.int .i64 0/\w=wr2)
  case atStart=>exact⟨rfl,rfl,rfl⟩
  case round =>
   obtain⟨hg2,rfl,rfl⟩:=hrel;go_wp2
   go_loopg [7] M.L.length (fun g i wr=>∃k:Nat,k<=M.L.length/\g=M.L.length-k/\i=.int .i64 k/\Hid (ab [] w wr))
   case atStart=>exact⟨0,by omega,rfl,rfl,ab.refl _ _⟩
   case round =>
    obtain⟨k,hk,hg3,rfl,HK⟩:=hrel;have HMr:Hid (bM wr b I M N):=HM.out.still HK.out;have c3:wr.cell? ⟨b,3,none⟩=some (.slice M.hl.ao M.L.length M.hl.cap):=by rw[aa HMr.out.blk];rfl
    have c4:wr.cell? ⟨b,4,none⟩=some (.slice M.hc.ao M.L.length M.hc.cap):=by rw[aa HMr.out.blk];rfl
    clear bz;have bz:=ae HMr.out.blk
    by_cases hlt:k<M.L.length
    ·obtain⟨⟨a,c,fs⟩,hk2⟩:∃x,M.L[k]?=some x:=⟨M.L[k],List.getElem?_eq_getElem hlt⟩
     obtain⟨hI8,hI9,-,hfl⟩:=HMr.out.l k a c fs hk2;obtain⟨gl,hgl,gz,gc⟩:=md HMr.out.ownL (k:=k) (x:=(a,fs)) (by rw[List.getElem?_map,hk2];rfl);obtain⟨gr,hgr,rz,rc⟩:=md HMr.out.ownC (k:=k) (x:=(c,fs)) (by rw[List.getElem?_map,hk2];rfl);replace gc:wr.cell? ⟨gl,k,none⟩=some (.slice (GB a) fs.length fs.length):=gc;replace rc:wr.cell? ⟨gr,k,none⟩=some (.slice (GB c) fs.length fs.length):=rc;rw[hgl]at c3;rw[hgr]at c4;have hL8:gC wr a fs:=by have:=HMr.out.sep.all (8,k);rw[hI8]at this;exact this
     have hL9:gC wr c fs:=by have:=HMr.out.sep.all (9,k);rw[hI9]at this;exact this
     have HSF:Hid (∀n,Calls Tryz.prog 26 #[.slice (GB a) fs.length fs.length,.slice (GB c) fs.length fs.length] (wr.drewN n) fun e w'=>e=.returned (.bool true)/\∃m,w'=(wr.drewN n).drewN m):=fun n=>lT (GB a) (GB c) _ _ fs (wr.drewN n) (jM.kept hL8.src ((ab.refl [] _).drewN n) (by simp)) (jM.kept hL9.src ((ab.refl [] _).drewN n) (by simp)) (by omega)
     have hki:(k:Int)<(M.L.length:Int):=by omega
     clear hk2 hI8 hI9 hgl hgr hL8 hL9
     go_upto_region 16 with fail
     go_quiet ((go_at_call 26;exact Calls.quiet_of (HSF.out _)))
     have HK2:Hid (ab [] w (wr.drewN nq)):=HK.out.drewN nq;go_wp2
     go_roundg (M.L.length-(k+1))
     case measure=>omega
     case rel=>exact⟨k+1,by omega,rfl,by go_num,HK2⟩
    ·have hnn:¬(k:Int)<(M.L.length:Int):=by omega
     go_wp2;go_ret;exact⟨rfl,HK.out⟩
end Go.Proofs.YtpddjjabfbfifaaGreat
