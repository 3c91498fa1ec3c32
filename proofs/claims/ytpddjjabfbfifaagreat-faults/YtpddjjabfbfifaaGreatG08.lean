import Derived.Test.YtpddjjabfbfifaaGreatG07
namespace Go.Proofs.YtpddjjabfbfifaaGreat
open Go.RowKit
set_option maxHeartbeats 40000000
theorem Ah(l:List (ByteArray×Pl)):∀u∈lP l,u.oneCell'=true:=by
 intro u hu;simp only[lP,List.mem_flatMap]at hu;obtain⟨p,_,hu⟩:=hu;simp only[oP,List.mem_cons,List.not_mem_nil,or_false]at hu
 rcases hu with rfl | rfl | rfl | rfl <;> rfl
theorem IR(s:St)(a b:Hd):∀u∈Fe s a b,u.oneCell'=true:=by
 intro u hu;simp only[Fe,List.mem_cons,List.not_mem_nil,or_false]at hu
 rcases hu with rfl | rfl | rfl | rfl | rfl | rfl | rfl | rfl <;> rfl
set_option maxRecDepth 100000 in
theorem ph(b t o:Nat)(pre post:List Value)(d:Db)(H:Nat->Hd)(k:Int)(lab f:ByteArray)(l c:Int)(w:World)(h:aN w b t pre post d H)(ho:pre.length=o)(hs:eS d 100000000) :
  Calls Tryz.prog 268 #[.pointer (some ⟨b,o+6,none⟩),.agg #[.int .i64 k,.string lab,.slice (H 8).ao d.symbols.length (H 8).cap,.slice (H 9).ao d.proof.length (H 9).cap,.string f,.int .i64 l,.int .i64 c,.int .i64 0]] w fun e w' =>
   e=.returned (.tuple #[])/\∃H',aN w' b t pre post { d with sts:=d.sts++[⟨k,lab,d.symbols,d.proof,⟨f,l,c⟩,0⟩] } H'/\aw b w H w' H'/\∀j,j<10->j≠6->H' j=H j:=by
 obtain⟨i0,hi,hz0,hz1,hz2⟩:=info_parts jI;obtain⟨i1,hi1,hy0,hy1,hy2⟩:=info_parts J1;obtain⟨i2,hi2,hx0,hx1,hx2⟩:=info_parts Lz;have hl8:=hs.symbols;have hl9:=hs.proof;have hl6:=hs.sts;have m1:=fun w=>dn (P:=Tryz.prog) w 61 9 i0 _ Tryz.underlying61 hi hz0 d.symbols.length 1 hz1 (by rw[hz2];omega) (by omega)
 have m2:=fun w=>dn (P:=Tryz.prog) w 156 229 i1 _ Tryz.underlying156 hi1 hy0 d.proof.length 4 hy1 (by rw[hy2];omega) (by omega)
 obtain⟨mc1,hmc1⟩:∃mc,mc=madeCells (Value.string ⟨#[]⟩).cells (d.symbols.length*1):=⟨_,rfl⟩
 obtain⟨mc2,hmc2⟩:∃mc,mc=madeCells (Value.agg #[.string ⟨#[]⟩,.string ⟨#[]⟩,.int .i64 0,.int .i64 0]).cells (d.proof.length*4):=⟨_,rfl⟩
 have z1:mc1.size=d.symbols.length*1:=by rw[hmc1,size_madeCells]
 have z2:mc2.size=d.proof.length*4:=by rw[hmc2,size_madeCells]
 rw[<-hmc1]at m1;rw[<-hmc2]at m2;clear hmc1 hmc2;obtain⟨bx,hbx⟩:∃bx:Array Value,bx=#[.int .i64 k,.string lab,.slice (H 8).ao d.symbols.length (H 8).cap,.slice (H 9).ao d.proof.length (H 9).cap,.string f,.int .i64 l,.int .i64 c,.int .i64 0]:=⟨_,rfl⟩
 obtain⟨W2,hW2⟩:∃W2,W2=(w.alloc (.cells #[.int .i64 k,.string lab,.slice (H 8).ao d.symbols.length (H 8).cap,.slice (H 9).ao d.proof.length (H 9).cap,.string f,.int .i64 l,.int .i64 c,.int .i64 0] 158)).alloc (.cells mc1 9):=⟨_,rfl⟩
 have K2:ab [] w W2:=by rw[hW2];exact((ab.refl [] _).alloc _).alloc _
 have D2:=h.still K2;have Z2:W2.heap.size=w.heap.size+2:=by rw[hW2];simp
 have B2:W2.heap[w.heap.size]?=some (.cells bx 158 (0,0)):=by
  rw[hW2,hbx];exact((ab.refl [] _).alloc _).get (heap_alloc_new _ _) (by simp)
 have G2:W2.heap[w.heap.size+1]?=some (.cells mc1 9 (0,0)):=by
  rw[hW2];have:=heap_alloc_new (w.alloc (.cells #[.int .i64 k,.string lab,.slice (H 8).ao d.symbols.length (H 8).cap,.slice (H 9).ao d.proof.length (H 9).cap,.string f,.int .i64 l,.int .i64 c,.int .i64 0] 158)) (.cells mc1 9);simpa using this
 have HW2:=(show Hid _ from hW2.symm);have hbw:=h.lt;have Hsz1:Hid ((Tryz.prog.info? (aD d.symbols).e).map (·.size)=some (aD d.symbols).size):=by show _=_;simp[aD,hi,hz1]
 have Hsz2:Hid ((Tryz.prog.info? (fA d.proof).e).map (·.size)=some (fA d.proof).size):=by show _=_;simp[fA,hi1,hy1]
 clear hW2;go_enter Tryz.func268,Tryz.ntmps268
 go_upto_region 2 with fail
 rw[HW2.out];have b2:W2.cell? ⟨w.heap.size,2,none⟩=some (.slice (H 8).ao d.symbols.length (H 8).cap):=by rw[aa B2,hbx];rfl
 clear HW2 m1;obtain⟨w3,cp1,hg3,hk3,hz3⟩:=qC (P:=Tryz.prog) W2 61 61 3 (w.heap.size+1) d.symbols.length (H 8) (aD d.symbols) mc1 9 Tryz.underlying61 Hsz1.out G2 (D2.own 8) z1 (ko _);simp only[aD]at cp1 hg3;have K3:ab [] w w3:=((K2.mono (S':=[w.heap.size+1]) (by simp)).trans hk3).mono (by simp);have B3:=hk3.get B2 (by simp);rw[Z2]at hz3;have b3:w3.cell? ⟨w.heap.size,3,none⟩=some (.slice (H 9).ao d.proof.length (H 9).cap):=by rw[aa B3,hbx];rfl
 clear G2 B2 D2 hk3 K2;obtain⟨W4,hW4⟩:∃W4,W4=w3.alloc (.cells mc2 229):=⟨_,rfl⟩
 have K4:ab [] w W4:=by rw[hW4];exact K3.alloc _
 have k34:ab [] w3 W4:=by rw[hW4];exact(ab.refl [] _).alloc _
 have D4:=h.still K4;have B4:=k34.get B3 (by simp);have S4:=k34.get hg3 (by simp);have G4:W4.heap[w.heap.size+2]?=some (.cells mc2 229 (0,0)):=by rw[hW4,<-hz3];exact heap_alloc_new _ _
 have HW4:=(show Hid _ from hW4.symm);have Z4:W4.heap.size=w.heap.size+3:=by rw[hW4];simp[hz3]
 clear hW4 k34
 go_upto_region 4 with fail
 clear cp1 b2;rw[HW4.out];have b4:W4.cell? ⟨w.heap.size,3,none⟩=some (.slice (H 9).ao d.proof.length (H 9).cap):=by rw[aa B4,hbx];rfl
 clear HW4 m2 b3;obtain⟨w5,cp2,hg5,hk5,hz5⟩:=qC (P:=Tryz.prog) W4 156 156 3 (w.heap.size+2) d.proof.length (H 9) (fA d.proof) mc2 229 Tryz.underlying156 Hsz2.out G4 (D4.own 9) z2 (Ah _);simp only[fA]at cp2 hg5;have K5:ab [] w w5:=((K4.mono (S':=[w.heap.size+2]) (by simp)).trans hk5).mono (by simp);have B5:=hk5.get B4 (by simp);have S5:=hk5.get S4 (by simp);rw[Z4]at hz5;clear G4 B4 D4 hk5 K4 S4;have bx2:w5.cell? ⟨w.heap.size,2,none⟩=some (.slice (H 8).ao d.symbols.length (H 8).cap):=by rw[aa B5,hbx];rfl
 have bx3:w5.cell? ⟨w.heap.size,3,none⟩=some (.slice (H 9).ao d.proof.length (H 9).cap):=by rw[aa B5,hbx];rfl
 have bx7:w5.cell? ⟨w.heap.size,7,none⟩=some (.int .i64 0):=by rw[aa B5,hbx];rfl
 have fx:=ak B5;obtain⟨W8,hW8⟩:∃W8,W8=((w5.setCell ⟨w.heap.size,2,none⟩ (.slice (some ⟨w.heap.size+1,0,none⟩) d.symbols.length d.symbols.length)).setCell ⟨w.heap.size,3,none⟩ (.slice (some ⟨w.heap.size+2,0,none⟩) d.proof.length d.proof.length)).setCell ⟨w.heap.size,7,none⟩ (.int .i64 0):=⟨_,rfl⟩
 have HW8:=(show Hid _ from hW8.symm);have K8:ab [] w W8:=by rw[hW8];exact((K5.setCell (Or.inr (Nat.le_refl _)) _).setCell (Or.inr (Nat.le_refl _)) _).setCell (Or.inr (Nat.le_refl _)) _
 have k58:ab [w.heap.size] w5 W8:=by rw[hW8];exact(((ab.refl _ _).setCell (Or.inl (by simp)) _).setCell (Or.inl (by simp)) _).setCell (Or.inl (by simp)) _
 have B8:W8.heap[w.heap.size]?=some (.cells (Fe ⟨k,lab,d.symbols,d.proof,⟨f,l,c⟩,0⟩ ⟨some ⟨w.heap.size+1,0,none⟩,d.symbols.length⟩ ⟨some ⟨w.heap.size+2,0,none⟩,d.proof.length⟩).toArray 158 (0,0)):=by
  rw[hW8,ah (ah (ah B5 _ _) _ _),hbx];rfl
 have S8:=k58.get S5 (by simp);have P8:=k58.get hg5 (by simp);clear hW8 k58 S5 hg5 B5
 go_upto_region 8 with fail
 rw[HW8.out];clear HW8 cp2 bx2 bx3 bx7 fx b4 K5 hbx hg3 hz3 B3 K3;have y:=fun j v (hv:(Fe ⟨k,lab,d.symbols,d.proof,⟨f,l,c⟩,0⟩ ⟨some ⟨w.heap.size+1,0,none⟩,d.symbols.length⟩ ⟨some ⟨w.heap.size+2,0,none⟩,d.proof.length⟩)[j]?=some v)=>(aa B8 j).trans (by simpa using hv)
 have y0:=y 0 _ rfl;have y1:=y 1 _ rfl;have y2:=y 2 _ rfl;have y3:=y 3 _ rfl;have y4:=y 4 _ rfl;have y5:=y 5 _ rfl;have y6:=y 6 _ rfl;have y7:=y 7 _ rfl;simp only at y0 y1 y2 y3 y4 y5 y6 y7;clear y;have D8:=h.still K8;have q6:=D8.cellAt o ho 6 (by omega);simp only[bU,List.getElem?_cons_succ,List.getElem?_cons_zero]at q6;have hfr:=D8.free;have hb8:=D8.lt;obtain⟨news,hnews⟩:∃news:List Value,news=Fe ⟨k,lab,d.symbols,d.proof,⟨f,l,c⟩,0⟩ ⟨some ⟨w.heap.size+1,0,none⟩,d.symbols.length⟩ ⟨some ⟨w.heap.size+2,0,none⟩,d.proof.length⟩:=⟨_,rfl⟩
 obtain⟨W9,hW9⟩:∃W9,W9=(W8.alloc (.cells #[.int .i64 k,.string lab,.slice (some ⟨w.heap.size+1,0,none⟩) d.symbols.length d.symbols.length,.slice (some ⟨w.heap.size+2,0,none⟩) d.proof.length d.proof.length,.string f,.int .i64 l,.int .i64 c,.int .i64 0] 158)).drew:=⟨_,rfl⟩
 have K9:ab [] W8 W9:=by rw[hW9];exact((ab.refl [] _).alloc _).drew
 have G9:W9.heap[W8.heap.size]?=some (.cells news.toArray 158 (0,0)):=by rw[hW9,hnews];exact heap_alloc_new _ _
 have O1:aA W9 ⟨some ⟨w.heap.size+1,0,none⟩,d.symbols.length⟩ (aD d.symbols):=aA.made (r:=aD d.symbols) (K9.get S8 (by simp)) (zR _) (by simp only[aD];unfold maxLen;omega);have O2:aA W9 ⟨some ⟨w.heap.size+2,0,none⟩,d.proof.length⟩ (fA d.proof):=aA.made (r:=fA d.proof) (K9.get P8 (by simp)) (Br _) (by simp only[fA];unfold maxLen;omega);have D9:Hid (aN W9 b t pre post d H):=D8.still K9
 have s2:Hid (∀j u,news[j]?=some u->W9.cell? ((⟨W8.heap.size,0,none⟩:Addr).add j)=some u):=by
  intro j u hj;rw[bK,aa G9];simpa using hj
 have s3:Hid (∀u∈news,u.oneCell'=true):=by rw[hnews];exact IR _ _ _
 have s4:Hid ((gB d.sts H).n+1<=maxLen):=by show _<=_;simp only[gB];unfold maxLen;omega
 have s5:Hid (((gB d.sts H).n+1)*112<=140737488355328):=by show _<=_;simp only[gB];omega
 have AF:=fun(g cap':Nat) (w1:World) (hw1:aA w1 ⟨some ⟨g,0,none⟩,cap'⟩ ⟨(gB d.sts H).e,(gB d.sts H).size,(gB d.sts H).n+1,(gB d.sts H).xs++news⟩) hgr hfresh=>h.addst (K8.trans K9) ho ⟨k,lab,d.symbols,d.proof,⟨f,l,c⟩,0⟩ ⟨some ⟨w.heap.size+1,0,none⟩,d.symbols.length⟩ ⟨some ⟨w.heap.size+2,0,none⟩,d.proof.length⟩ (w.heap.size+1) (w.heap.size+2) rfl rfl (by omega) (by omega) (by omega) O1 O2 g cap' (w1:=w1) (by rw[<-hnews];exact hw1) hgr hfresh
 have HAF:=(show Hid _ from AF);have hlen:Hid (news.length=1*(gB d.sts H).size):=by show _=_;rw[hnews];rfl
 rw[hW9]at D9 s2 HAF;clear AF O1 O2 G9 K9 hW9 W9 hnews P8 S8 B8
 go_region_law (refine cd rfl (.tmp 31) (.tmp 33) 74 rfl i2 (.agg #[.int .i64 0,.string ⟨#[]⟩,.slice none 0 0,.slice none 0 0,.string ⟨#[]⟩,.int .i64 0,.int .i64 0,.int .i64 0]) 112 (H 6) (gB d.sts H) Tryz.underlying74 hi2 hx0 hx1 hx2 rfl (Nat.succ_pos 7) (by simp[Act.eval] <;> rfl) (D9.out.own 6) ⟨W8.heap.size,0,none⟩ 1 1 news (by simp[Act.eval]) hlen.out s2.out s3.out Nat.one_pos s4.out s5.out ?_;intro g cap' w1 hw1 hgr hfresh;obtain⟨k5,f5,HP⟩:=HAF.out g cap' w1 hw1 hgr (by simpa using hfresh);clear hw1 hgr hfresh)
 all_goals go_wp2
 all_goals go_end0
 all_goals
  obtain⟨H',P1,P2,P3⟩:=HP.out;exact⟨rfl,H',P1,P2,P3⟩
end Go.Proofs.YtpddjjabfbfifaaGreat
