import Derived.Test.YtpddjjabfbfifaaGreatG14
namespace Go.Proofs.YtpddjjabfbfifaaGreat
open Go.RowKit
set_option maxHeartbeats 40000000
structure lV where
 kind:Int
 number:Nat
 at_:Pl
def jK(s:lV):List Value:=[.int .i64 s.kind,.int .i64 s.number,.string s.at_.file,.int .i64 s.at_.line,.int .i64 s.at_.col]
def uv(l:List lV):List Value:=l.flatMap jK
def fm(l:List lV):dK:=⟨174,5,l.length,uv l⟩
theorem qO(l:List lV)(s:lV):(⟨(fm l).e,(fm l).size,(fm l).n+1,(fm l).xs++jK s⟩:dK)=fm (l++[s]):=by simp[fm,uv]
theorem qJ(s:lV):∀u∈jK s,u.oneCell'=true:=by
 intro u hu;simp only[jK,List.mem_cons,List.not_mem_nil,or_false]at hu
 rcases hu with rfl | rfl | rfl | rfl | rfl <;> rfl
theorem J3:(Tryz.prog.info? 174).map (fun i=>(i.zero,i.size,i.bytes))=some (some (.agg #[.int .i64 0,.int .i64 0,.string ⟨#[]⟩,.int .i64 0,.int .i64 0]),5,48):=by kernel_rfl
structure kP where
 names:List Nat
 tagged:List Nat
 steps:List lV
 digits:Nat
 behind:Bool
def tE(c:kP):Nat->dK
 | 0=>bq c.names
 | 1=>bq c.tagged
 | 2=>fm c.steps
 | _+3=>bq []
def j9(c:kP)(H:Nat->Hd):List Value :=
 [.slice (H 0).ao c.names.length (H 0).cap,.slice (H 1).ao c.tagged.length (H 1).cap,.slice (H 2).ao c.steps.length (H 2).cap,.int .i64 c.digits,.bool c.behind]
def dr(w:World)(b:Nat)(c:kP)(H:Nat->Hd):Prop:=aR w b 279 (j9 c H) (tE c) H
theorem dr.cells{w:World}{b:Nat}{c:kP}{H:Nat->Hd}(h:dr w b c H) :
  w.cell? ⟨b,0,none⟩=some (.slice (H 0).ao c.names.length (H 0).cap)/\w.cell? ⟨b,1,none⟩=some (.slice (H 1).ao c.tagged.length (H 1).cap)/\w.cell? ⟨b,2,none⟩=some (.slice (H 2).ao c.steps.length (H 2).cap) /\
  w.cell? ⟨b,3,none⟩=some (.int .i64 c.digits)/\w.cell? ⟨b,4,none⟩=some (.bool c.behind) :=
 ⟨aR.cell h 0,aR.cell h 1,aR.cell h 2,aR.cell h 3,aR.cell h 4⟩
structure fD(c:kP)(N:Nat):Prop where
 names:c.names.length<=N
 tagged:c.tagged.length<=N
 steps:c.steps.length<=N
 digits:c.digits<=10*N+5
 behind:c.behind=true->0<c.steps.length
def dL(c:kP)(s:lV):kP:={ c with steps:=c.steps++[s],behind:=false }
set_option maxRecDepth 100000 in
theorem nK(b:Nat)(c:kP)(H:Nat->Hd)(k:Int)(n:Nat)(f:ByteArray)(l co:Int)(w:World)(h:dr w b c H)(ok:fD c 10000000) :
  Calls Tryz.prog 244 #[.pointer (some ⟨b,0,none⟩),.agg #[.int .i64 k,.int .i64 n,.string f,.int .i64 l,.int .i64 co]] w fun e w'=>e=.returned (.tuple #[])/\∃H',dr w' b (dL c ⟨k,n,⟨f,l,co⟩⟩) H'/\aw b w H w' H'/\∀j,j≠2->H' j=H j:=by
 obtain⟨i0,hi,hz0,hz1,hz2⟩:=info_parts J3;have hsl:=ok.steps;obtain⟨W,hW⟩:∃W,W=w.alloc (.cells #[.int .i64 k,.int .i64 n,.string f,.int .i64 l,.int .i64 co] 174):=⟨_,rfl⟩
 have K:ab [] w W:=by rw[hW];exact(ab.refl [] _).alloc _
 have hC:dr W b c H:=aR.still h K;have B:W.heap[w.heap.size]?=some (.cells #[.int .i64 k,.int .i64 n,.string f,.int .i64 l,.int .i64 co] 174 (0,0)):=by rw[hW];exact heap_alloc_new _ _
 have y0:W.cell? ⟨w.heap.size,0,none⟩=some (.int .i64 k):=by rw[aa B];rfl
 have y1:W.cell? ⟨w.heap.size,1,none⟩=some (.int .i64 n):=by rw[aa B];rfl
 have y2:W.cell? ⟨w.heap.size,2,none⟩=some (.string f):=by rw[aa B];rfl
 have y3:W.cell? ⟨w.heap.size,3,none⟩=some (.int .i64 l):=by rw[aa B];rfl
 have y4:W.cell? ⟨w.heap.size,4,none⟩=some (.int .i64 co):=by rw[aa B];rfl
 obtain⟨c0,c1,c2,c3,c4⟩:=hC.cells;clear c0 c1 c3;have hfr:=aR.free hC;have hbW:=aR.lt hC;have hwW:=ae B;have hD:Hid (dr (W.alloc (.cells #[.int .i64 k,.int .i64 n,.string f,.int .i64 l,.int .i64 co] 174)).drew b c H):=aR.still hC ((ab.refl [] W).alloc _).drew
 have s2:Hid (∀j u,(jK ⟨k,n,⟨f,l,co⟩⟩)[j]?=some u->(W.alloc (.cells #[.int .i64 k,.int .i64 n,.string f,.int .i64 l,.int .i64 co] 174)).drew.cell? ((⟨W.heap.size,0,none⟩:Addr).add j)=some u):=by
  intro j u hj;have hk:(W.alloc (.cells #[.int .i64 k,.int .i64 n,.string f,.int .i64 l,.int .i64 co] 174)).drew.heap[W.heap.size]?=some (.cells #[.int .i64 k,.int .i64 n,.string f,.int .i64 l,.int .i64 co] 174 (0,0)):=heap_alloc_new _ _;rw[bK,aa hk];simpa [jK] using hj
 have s4:Hid ((fm c.steps).n+1<=maxLen):=by show _<=_;simp only[fm];unfold maxLen;omega
 have s5:Hid (((fm c.steps).n+1)*48<=140737488355328):=by show _<=_;simp only[fm];omega
 have HW:=(show Hid _ from hW.symm)
 have hrw:Hid (∀j,j≠2->tE { c with steps:=c.steps++[⟨k,n,⟨f,l,co⟩⟩] } j=tE c j):=by
  intro j hj
  match j,hj with
  | 0,_=>rfl
  | 1,_=>rfl
  | 2,hj=>exact absurd rfl hj
  | m+3,_=>rfl
 clear hW B h;go_enter Tryz.func244,Tryz.ntmps244
 go_upto_region 1 with fail
 rw[HW.out]
 go_region_law (refine cd rfl (.tmp 8) (.tmp 10) 163 rfl i0 (.agg #[.int .i64 0,.int .i64 0,.string ⟨#[]⟩,.int .i64 0,.int .i64 0]) 48 (H 2) (fm c.steps) Tryz.underlying163 hi hz0 hz1 hz2 rfl (Nat.succ_pos 4) (by simp[Act.eval] <;> rfl) (aR.own hD.out 2) ⟨W.heap.size,0,none⟩ 1 1 (jK ⟨k,n,⟨f,l,co⟩⟩) (by simp[Act.eval]) rfl s2.out (qJ _) Nat.one_pos s4.out s5.out ?_;intro g cap' w1 hw1 hgr hfresh;obtain⟨k5,f5,HP⟩:=aR.app hD.out (cs':=j9 { c with steps:=c.steps++[⟨k,n,⟨f,l,co⟩⟩] } (fI H 2 ⟨some ⟨g,0,none⟩,cap'⟩)) (rows':=tE { c with steps:=c.steps++[⟨k,n,⟨f,l,co⟩⟩] }) 2 2 g cap' ((fm c.steps).n+1) _ hw1 (qO c.steps ⟨k,n,⟨f,l,co⟩⟩) hgr (by simpa using hfresh) hrw.out (.slice (H 2).ao c.steps.length (H 2).cap) rfl (by simp[j9,fI,fm]);clear hw1 hgr hfresh)
 all_goals
  have D2:=(show Hid _ from aR.set HP.out.1 4 (.bool false));have hb4:=(aR.cell HP.out.1 4);have hf4:=aR.free HP.out.1;simp only[j9,List.getElem?_cons_succ,List.getElem?_cons_zero]at hb4;clear c2 c4 hfr y0 y1 y2 y3 y4 k5 f5;go_wp2;go_end0;exact⟨rfl,_,D2.out.1,((HP.out.2.first ((ab.refl [] _).alloc _).drew).first K).trans D2.out.2,fun j hj=>bL _ _ _ _ hj⟩
end Go.Proofs.YtpddjjabfbfifaaGreat
