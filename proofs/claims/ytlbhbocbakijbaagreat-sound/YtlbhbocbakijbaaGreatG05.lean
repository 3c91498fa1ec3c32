import Derived.Deep.RegionLaw
import Derived.Test.YtlbhbocbakijbaaGreatG04
namespace Go.Proofs.YtlbhbocbakijbaaGreat
open Go.RowKit
set_option maxHeartbeats 0
theorem FY:(Tryz.prog.info? 241).map (fun i=>(i.zero,i.size,i.bytes))=some (some (.agg #[.int .i64 0,.int .i64 0]),2,16):=by kernel_rfl
theorem lP(l:List (Nat×Nat))(x:Nat×Nat):kr (l++[x])=kr l++[.int .i64 x.1,.int .i64 x.2]:=by simp[kr]
theorem zZ(l:List (Nat×Nat))(x:Nat×Nat):(⟨(jp l).e,(jp l).size,(jp l).n+1,(jp l).xs++[.int .i64 x.1,.int .i64 x.2]⟩:eI)=jp (l++[x]):=by
 simp[jp,lP]
set_option maxRecDepth 100000 in
theorem oF(b t o:Nat)(pre post:List Value)(d:Db)(H:Nat->Hd)(w:World)(h:aE w b t pre post d H)(ho:pre.length=o)(hl:d.blocks.length<=1073741824) :
  Calls Tryz.prog 156 #[.pointer (some ⟨b,o,none⟩)] w fun e w'=>e=.returned (.tuple #[])/\∃H',aE w' b t pre post { d with blocks:=d.blocks++[(d.active.length,d.typed.length)] } H'/\ag b w H w' H':=by
 obtain⟨i0,hi,hz0,hz1,hz2⟩:=info_parts FY;obtain⟨q0,q1,q2,q3,q4,q5,q6,q7,q8,q9,q10,q11,q12⟩:=h.cells o ho;have hfr:=h.free;have hbw:=h.lt;have hD:Hid (aE (w.alloc (.cells #[.int .i64 d.active.length,.int .i64 d.typed.length] 241)).drew b t pre post d H):=h.still ((aa.refl [] w).alloc _).drew
 have s2:Hid (∀j u,([.int .i64 d.active.length,.int .i64 d.typed.length]:List Value)[j]?=some u->(w.alloc (.cells #[.int .i64 d.active.length,.int .i64 d.typed.length] 241)).drew.cell? ((⟨w.heap.size,0,none⟩:Addr).add j)=some u):=by
  intro j u hj;rw[aV];have hk:(w.alloc (.cells #[.int .i64 d.active.length,.int .i64 d.typed.length] 241)).drew.heap[w.heap.size]?=some (.cells #[.int .i64 d.active.length,.int .i64 d.typed.length] 241 (0,0)):=heap_alloc_new _ _;rw[ab hk];simpa using hj
 have s3:Hid (∀u∈([.int .i64 d.active.length,.int .i64 d.typed.length]:List Value),u.oneCell'=true):=by
  intro u hu;simp at hu
  rcases hu with rfl | rfl <;> rfl
 have s4:Hid ((jp d.blocks).n+1<=maxLen):=by show _<=_;simp only[jp];unfold maxLen;omega
 have s5:Hid (((jp d.blocks).n+1)*16<=140737488355328):=by show _<=_;simp only[jp];omega
 clear h;go_enter Tryz.func156,Tryz.ntmps156;go_wp2_with fail
 go_region_law (refine aC rfl (.tmp 6) (.tmp 18) 150 rfl i0 (.agg #[.int .i64 0,.int .i64 0]) 16 (H 5) (jp d.blocks) Tryz.underlying150 hi hz0 hz1 hz2 rfl Nat.two_pos (by simp[Act.eval] <;> rfl) (hD.out.own 5) ⟨w.heap.size,0,none⟩ 1 1 [.int .i64 d.active.length,.int .i64 d.typed.length] (by simp[Act.eval]) rfl s2.out s3.out Nat.one_pos s4.out s5.out ?_;intro g cap' w1 hw1 hgr hfresh;obtain⟨k5,f5,HP⟩:=hD.out.app (d':={ d with blocks:=d.blocks++[(d.active.length,d.typed.length)] }) o 5 ho 5 (by omega) g cap' ((jp d.blocks).n+1) _ hw1 (zZ d.blocks (d.active.length,d.typed.length)) hgr (by simpa using hfresh) (nU d H _) (by omega) _ rfl (by simp[bu,cG,jp]);clear hw1 hgr hfresh)
 all_goals go_wp2
 all_goals go_end0
 all_goals exact⟨rfl,_,HP.out.1,HP.out.2.first ((aa.refl [] w).alloc _).drew⟩
end Go.Proofs.YtlbhbocbakijbaaGreat
