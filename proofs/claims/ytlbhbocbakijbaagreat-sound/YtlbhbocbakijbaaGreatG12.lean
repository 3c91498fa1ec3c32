import Derived.Test.YtlbhbocbakijbaaGreatG11
namespace Go.Proofs.YtlbhbocbakijbaaGreat
open Go.RowKit
set_option maxHeartbeats 0
structure fk where
 kind:Int
 number:Nat
 at_:Pl
def gH(s:fk):List Value:=[.int .i64 s.kind,.int .i64 s.number,.string s.at_.file,.int .i64 s.at_.line,.int .i64 s.at_.col]
def qc(l:List fk):List Value:=l.flatMap gH
def dB(l:List fk):eI:=⟨176,5,l.length,qc l⟩
theorem nz(l:List fk)(s:fk):(⟨(dB l).e,(dB l).size,(dB l).n+1,(dB l).xs++gH s⟩:eI)=dB (l++[s]):=by simp[dB,qc]
theorem nB(s:fk):∀u∈gH s,u.oneCell'=true:=by
 intro u hu;simp only[gH,List.mem_cons,List.not_mem_nil,or_false]at hu
 rcases hu with rfl | rfl | rfl | rfl | rfl <;> rfl
theorem E2:(Tryz.prog.info? 176).map (fun i=>(i.zero,i.size,i.bytes))=some (some (.agg #[.int .i64 0,.int .i64 0,.string ⟨#[]⟩,.int .i64 0,.int .i64 0]),5,48):=by kernel_rfl
structure gG where
 names:List Nat
 tagged:List Nat
 steps:List fk
 digits:Nat
 behind:Bool
def pX(c:gG):Nat->eI
 | 0=>aP c.names
 | 1=>aP c.tagged
 | 2=>dB c.steps
 | _+3=>aP []
def gP(c:gG)(H:Nat->Hd):List Value :=
 [.slice (H 0).ao c.names.length (H 0).cap,.slice (H 1).ao c.tagged.length (H 1).cap,.slice (H 2).ao c.steps.length (H 2).cap,.int .i64 c.digits,.bool c.behind]
def cB(w:World)(b:Nat)(c:gG)(H:Nat->Hd):Prop:=af w b 219 (gP c H) (pX c) H
theorem cB.cells{w:World}{b:Nat}{c:gG}{H:Nat->Hd}(h:cB w b c H) :
  w.cell? ⟨b,0,none⟩=some (.slice (H 0).ao c.names.length (H 0).cap)/\w.cell? ⟨b,1,none⟩=some (.slice (H 1).ao c.tagged.length (H 1).cap)/\w.cell? ⟨b,2,none⟩=some (.slice (H 2).ao c.steps.length (H 2).cap) /\
  w.cell? ⟨b,3,none⟩=some (.int .i64 c.digits)/\w.cell? ⟨b,4,none⟩=some (.bool c.behind) :=
 ⟨af.cell h 0,af.cell h 1,af.cell h 2,af.cell h 3,af.cell h 4⟩
structure dU(c:gG)(N:Nat):Prop where
 names:c.names.length<=N
 tagged:c.tagged.length<=N
 steps:c.steps.length<=N
 digits:c.digits<=10*N+5
 behind:c.behind=true->0<c.steps.length
def cH(c:gG)(s:fk):gG:={ c with steps:=c.steps++[s],behind:=false }
set_option maxRecDepth 100000 in
theorem jY(b:Nat)(c:gG)(H:Nat->Hd)(k:Int)(n:Nat)(f:ByteArray)(l co:Int)(w:World)(h:cB w b c H)(ok:dU c 10000000) :
  Calls Tryz.prog 174 #[.pointer (some ⟨b,0,none⟩),.agg #[.int .i64 k,.int .i64 n,.string f,.int .i64 l,.int .i64 co]] w fun e w'=>e=.returned (.tuple #[])/\∃H',cB w' b (cH c ⟨k,n,⟨f,l,co⟩⟩) H'/\ag b w H w' H'/\∀j,j≠2->H' j=H j:=by
 obtain⟨i0,hi,hz0,hz1,hz2⟩:=info_parts E2;have hsl:=ok.steps;obtain⟨W,hW⟩:∃W,W=w.alloc (.cells #[.int .i64 k,.int .i64 n,.string f,.int .i64 l,.int .i64 co] 176):=⟨_,rfl⟩
 have K:aa [] w W:=by rw[hW];exact(aa.refl [] _).alloc _
 have hC:cB W b c H:=af.still h K;have B:W.heap[w.heap.size]?=some (.cells #[.int .i64 k,.int .i64 n,.string f,.int .i64 l,.int .i64 co] 176 (0,0)):=by rw[hW];exact heap_alloc_new _ _
 have y0:W.cell? ⟨w.heap.size,0,none⟩=some (.int .i64 k):=by rw[ab B];rfl
 have y1:W.cell? ⟨w.heap.size,1,none⟩=some (.int .i64 n):=by rw[ab B];rfl
 have y2:W.cell? ⟨w.heap.size,2,none⟩=some (.string f):=by rw[ab B];rfl
 have y3:W.cell? ⟨w.heap.size,3,none⟩=some (.int .i64 l):=by rw[ab B];rfl
 have y4:W.cell? ⟨w.heap.size,4,none⟩=some (.int .i64 co):=by rw[ab B];rfl
 obtain⟨c0,c1,c2,c3,c4⟩:=hC.cells;clear c0 c1 c3;have hfr:=af.free hC;have hbW:=af.lt hC;have hwW:=ac B;have hD:Hid (cB (W.alloc (.cells #[.int .i64 k,.int .i64 n,.string f,.int .i64 l,.int .i64 co] 176)).drew b c H):=af.still hC ((aa.refl [] W).alloc _).drew
 have s2:Hid (∀j u,(gH ⟨k,n,⟨f,l,co⟩⟩)[j]?=some u->(W.alloc (.cells #[.int .i64 k,.int .i64 n,.string f,.int .i64 l,.int .i64 co] 176)).drew.cell? ((⟨W.heap.size,0,none⟩:Addr).add j)=some u):=by
  intro j u hj;have hk:(W.alloc (.cells #[.int .i64 k,.int .i64 n,.string f,.int .i64 l,.int .i64 co] 176)).drew.heap[W.heap.size]?=some (.cells #[.int .i64 k,.int .i64 n,.string f,.int .i64 l,.int .i64 co] 176 (0,0)):=heap_alloc_new _ _;rw[aV,ab hk];simpa [gH] using hj
 have s4:Hid ((dB c.steps).n+1<=maxLen):=by show _<=_;simp only[dB];unfold maxLen;omega
 have s5:Hid (((dB c.steps).n+1)*48<=140737488355328):=by show _<=_;simp only[dB];omega
 have HW:=(show Hid _ from hW.symm)
 have hrw:Hid (∀j,j≠2->pX { c with steps:=c.steps++[⟨k,n,⟨f,l,co⟩⟩] } j=pX c j):=by
  intro j hj
  match j,hj with
  | 0,_=>rfl
  | 1,_=>rfl
  | 2,hj=>exact absurd rfl hj
  | m+3,_=>rfl
 clear hW B h;go_enter Tryz.func174,Tryz.ntmps174
 go_upto_region 1 with fail
 rw[HW.out]
 go_region_law (refine aC rfl (.tmp 8) (.tmp 10) 165 rfl i0 (.agg #[.int .i64 0,.int .i64 0,.string ⟨#[]⟩,.int .i64 0,.int .i64 0]) 48 (H 2) (dB c.steps) Tryz.underlying165 hi hz0 hz1 hz2 rfl (Nat.succ_pos 4) (by simp[Act.eval] <;> rfl) (af.own hD.out 2) ⟨W.heap.size,0,none⟩ 1 1 (gH ⟨k,n,⟨f,l,co⟩⟩) (by simp[Act.eval]) rfl s2.out (nB _) Nat.one_pos s4.out s5.out ?_;intro g cap' w1 hw1 hgr hfresh;obtain⟨k5,f5,HP⟩:=af.app hD.out (cs':=gP { c with steps:=c.steps++[⟨k,n,⟨f,l,co⟩⟩] } (cG H 2 ⟨some ⟨g,0,none⟩,cap'⟩)) (rows':=pX { c with steps:=c.steps++[⟨k,n,⟨f,l,co⟩⟩] }) 2 2 g cap' ((dB c.steps).n+1) _ hw1 (nz c.steps ⟨k,n,⟨f,l,co⟩⟩) hgr (by simpa using hfresh) hrw.out (.slice (H 2).ao c.steps.length (H 2).cap) rfl (by simp[gP,cG,dB]);clear hw1 hgr hfresh)
 all_goals
  have D2:=(show Hid _ from af.set HP.out.1 4 (.bool false));have hb4:=(af.cell HP.out.1 4);have hf4:=af.free HP.out.1;simp only[gP,List.getElem?_cons_succ,List.getElem?_cons_zero]at hb4;clear c2 c4 hfr y0 y1 y2 y3 y4 k5 f5;go_wp2;go_end0;exact⟨rfl,_,D2.out.1,((HP.out.2.first ((aa.refl [] _).alloc _).drew).first K).trans D2.out.2,fun j hj=>bd _ _ _ _ hj⟩
end Go.Proofs.YtlbhbocbakijbaaGreat
