import Derived.Deep.LoopGhost
import Derived.Deep.CutRange
import Derived.Deep.CutBlock
import Derived.Test.YtlbhbocbakijbaaGreatG01
namespace Go.Proofs.YtlbhbocbakijbaaGreat
open Go.RowKit
set_option maxHeartbeats 0
def hU:Array Value:=#[.string ⟨#[]⟩,.int .i64 0,.bool false,.string ⟨#[]⟩,.int .i64 0,.int .i64 0]
theorem eq{w:World}{r:Nat}(h:w.heap[r]?=some (.cells hU 182 (0,0))) :
  w.cell? ⟨r,0,none⟩=some (.string ⟨#[]⟩)/\w.cell? ⟨r,1,none⟩=some (.int .i64 0)/\w.cell? ⟨r,2,none⟩=some (.bool false) /\
  w.cell? ⟨r,3,none⟩=some (.string ⟨#[]⟩)/\w.cell? ⟨r,4,none⟩=some (.int .i64 0)/\w.cell? ⟨r,5,none⟩=some (.int .i64 0):=by
 refine⟨?_,?_,?_,?_,?_,?_⟩ <;> (rw[ab h];rfl)
theorem d9{w:World}{b r k:Nat}{n d:ByteArray}(h:bi w b n d k)(hne:b≠r)(a0 a1 a2 a3 a4 a5:Value) :
  bi ((((((w.setCell ⟨r,0,none⟩ a0).setCell ⟨r,1,none⟩ a1).setCell ⟨r,2,none⟩ a2).setCell ⟨r,3,none⟩ a3).setCell ⟨r,4,none⟩ a4).setCell ⟨r,5,none⟩ a5) b n d k:=by
 unfold bi;rw[Below.heap_setCell _ _ _ _ hne,Below.heap_setCell _ _ _ _ hne,Below.heap_setCell _ _ _ _ hne,Below.heap_setCell _ _ _ _ hne,Below.heap_setCell _ _ _ _ hne,Below.heap_setCell _ _ _ _ hne];exact h
theorem eH{S:List Nat}{w w3:World}{r:Nat}(h:aa S w w3)(hr:w.heap.size<=r)(a0 a1 a2 a3 a4 a5:Value) :
  aa S w ((((((w3.setCell ⟨r,0,none⟩ a0).setCell ⟨r,1,none⟩ a1).setCell ⟨r,2,none⟩ a2).setCell ⟨r,3,none⟩ a3).setCell ⟨r,4,none⟩ a4).setCell ⟨r,5,none⟩ a5) :=
 (((((h.setCell (Or.inr hr) _).setCell (Or.inr hr) _).setCell (Or.inr hr) _).setCell (Or.inr hr) _).setCell (Or.inr hr) _).setCell (Or.inr hr) _
set_option maxRecDepth 100000 in
theorem ox(b k:Nat)(n d:ByteArray)(w:World)(hd:d.size<=1024)(hk:k<=d.size)(h:bi w b n d k) :
  Calls Tryz.prog 119 #[.pointer (some ⟨b,0,none⟩)] w fun e w'=>e=.returned (dq n d (aH d k).1)/\bi w' b n d (aH d k).2/\aa [b] w w':=by
 have hbw:=ac h;go_enter Tryz.func119,Tryz.ntmps119;go_upto_block 0 with fail
 go_cut [] from 5 (fun wc=>∃j,k<=j/\j<=d.size/\Hid (j=skip d k)/\bi wc b n d j/\wc.heap[w.heap.size]?=some (.cells hU 182 (0,0))/\aa [b] w wc)
 case first =>
  go_wp2_with fail
  go_loopg [] (d.size-k) (fun g wr=>∃j,k<=j/\j<=d.size/\g=d.size-j/\Hid (skip d j=skip d k)/\bi wr b n d j/\wr.heap[w.heap.size]?=some (.cells hU 182 (0,0))/\aa [b] w wr)
  case atStart=>exact⟨k,Nat.le_refl _,hk,rfl,rfl,bi.kept h ((aa.refl [] w).alloc _) (by simp),heap_alloc_new _ _,(aa.refl _ _).alloc _⟩
  case round =>
   obtain⟨j,hkj,hj,hg,hs,h1,hr,hkp⟩:=hrel;obtain⟨c0,c1,c2,c3,c4⟩:=h1.cells;have hRw:=ac hr;have hbr:=ac h1;have hRb:w.heap.size∉[b]:=by simp;omega
   by_cases hc:j<d.size/\cq (aw d j)=true
   ·obtain⟨hlt,hbl0⟩:=hc
    have hbl:=hbl0;rw[aU d j hlt]at hbl;have hs':Hid (skip d (j+1)=skip d k):=(lj d j hlt hbl0).symm.trans hs.out;clear hbl0;go_wp2_with fail
    go_quiet ((go_at_call 137;exact Calls.quiet_of_same (fV _ _)))
    go_wp2_with fail;refine(vc b j n d _ hd hlt (by exact h1)).mono ?_;rintro e w1 ⟨rfl,h2,hk2⟩;go_wp2
    go_roundg (d.size-(j+1))
    case measure=>omega
    case rel=>exact⟨j+1,by omega,by omega,rfl,hs',h2,hk2.get (by exact hr) hRb,(hkp.drewN nq).trans hk2⟩
   ·have hja:Hid (j=skip d k):=(hs.out.symm.trans (iF d j hc)).symm
    have hdec:(j<d.size/\∃h:j<d.size,cq ((d[j]'h).toNat:Int)=false)∨(¬j<d.size/\decide ((j:Int)<(d.size:Int))=false):=by
     by_cases hlt:j<d.size
     ·refine Or.inl ⟨hlt,hlt,?_⟩
      rw[<-aU d j hlt];simpa using fun h=>hc ⟨hlt,h⟩
     ·exact Or.inr ⟨hlt,by simp;omega⟩
    clear hc hs
    rcases hdec with ⟨hlt,hlt',hbl⟩ | ⟨hlt,hbl⟩
    all_goals
     go_wp2_with fail
     go_quiet ((go_at_call 137;exact Calls.quiet_of_same (fV _ _)))
     go_wp2_with fail
     go_meet
     case rel=>exact⟨j,hkj,hj,hja,by exact h1,by exact hr,hkp.drewN _⟩
 case rest =>
  obtain⟨j,hkj,hj,HJ,h1,hr,hkp⟩:=hcut;have hRw:=ac hr;have hbr:=ac h1;have hRb:w.heap.size∉[b]:=by simp;omega
  go_wp2_with fail;refine(rE b j n d _ (by exact h1)).mono ?_;rintro e w2 ⟨rfl,hk2⟩;have h2:bi w2 b n d j:=bi.kept (by exact h1) hk2 (by simp);have hr2:=hk2.get (by exact hr) (by simp);have hkp2:=hkp.trans (hk2.mono (by simp));have hb2:=ac h2;have hR2:=ac hr2;have hw2:=hkp2.size;clear h1 hr hkp hk2 hRw hbr;obtain⟨c0,c1,c2,c3,c4⟩:=h2.cells;go_wp2
  go_loopg [] (d.size-j) (fun g wr=>∃z,j<=z/\z<=d.size/\g=d.size-z/\Hid (aW d z=aW d j)/\bi wr b n d z/\wr.heap[w.heap.size]?=some (.cells hU 182 (0,0)) /\
   wr.heap[w2.heap.size]?=some (.cells #[.string n,.int .i64 (aD d j),.int .i64 (bb d j)] 46 (0,0))/\aa [b] w wr)
  case atStart=>exact⟨j,Nat.le_refl _,hj,rfl,rfl,h2.kept ((aa.refl [] w2).alloc _) (by simp),((aa.refl [] w2).alloc _).get hr2 (by simp),heap_alloc_new _ _,hkp2.alloc _⟩
  case round =>
   clear c0 c1 c2 c3 c4;obtain⟨z,hjz,hz,hg,hs,h1,hr,ha,hkp⟩:=hrel;obtain⟨c0,c1,c2,c3,c4⟩:=h1.cells;have hRw:=ac hr;have hbr:=ac h1;have haw:=ac ha;have e0:wr.cell? ⟨w2.heap.size,0,none⟩=some (.string n):=by rw[ab ha];rfl
   have e1:wr.cell? ⟨w2.heap.size,1,none⟩=some (.int .i64 (aD d j)):=by rw[ab ha];rfl
   have e2:wr.cell? ⟨w2.heap.size,2,none⟩=some (.int .i64 (bb d j)):=by rw[ab ha];rfl
   rcases AT d z with ⟨hlz,hbl,hpl,hwz⟩ | ⟨hlz,hbl,hpl⟩ | ⟨hlz,hbl⟩ | ⟨hlz,hbl⟩
   ·have HS:Hid (aW d (z+1)=aW d j):=hwz.trans hs.out
    clear hs hwz;go_wp2_with fail
    go_quiet ((go_at_call 137;exact Calls.quiet_of_same (fV _ _)))
    go_wp2_with fail
    go_quiet ((go_at_call 140;exact CD (jP _ _)))
    go_wp2_with fail;refine(vc b z n d _ hd hlz (by exact h1)).mono ?_;rintro e w3 ⟨rfl,h3,hk3⟩;go_wp2
    go_roundg (d.size-(z+1))
    case measure=>omega
    case rel=>exact⟨z+1,by omega,by omega,rfl,HS,h3,hk3.get (by exact hr) hRb,hk3.get (by exact ha) (by simp;omega),((hkp.drewN _).trans hk3)⟩
   ·have HF:Hid (aH d k=(⟨⟨#[]⟩,1,false,z⟩,z)):=CR d k j z HJ.out hs.out hlz (by rw[aU d z hlz];exact hbl) (by rw[aU d z hlz];exact hpl)
    clear hs;go_wp2_with fail
    go_quiet ((go_at_call 137;exact Calls.quiet_of_same (fV _ _)))
    go_wp2_with fail
    go_quiet ((go_at_call 140;exact CD (jP _ _)))
    go_wp2_with fail;refine(rE b z n d _ (by exact h1)).mono ?_;rintro e w3 ⟨rfl,hk3⟩;have h3:bi w3 b n d z:=bi.kept (by exact h1) hk3 (by simp);have hr3:=hk3.get (by exact hr) (by simp);have hkp3:=(hkp.drewN _).trans (hk3.mono (by simp));clear c0 c1 c2 c3 c4 h1 hr hkp hk3 hRw hbr ha haw e0 e1 e2;obtain⟨z0,z1,z2,z3,z4,z5⟩:=eq hr3;have y:=an hr3;go_wp2
    exact bodyPost_ret (v:=dq n d ⟨⟨#[]⟩,1,false,z⟩) (by simp[results,Tryz.results119,go_sem,dq,z0,z1,z2,z3,z4,z5]) rfl
     (by rw[HF.out];exact⟨rfl,d9 h3 (by omega) _ _ _ _ _ _,eH hkp3 (Nat.le_refl _) _ _ _ _ _ _⟩)
   all_goals
    have HZ:¬(z<d.size/\cq (aw d z)=false):=by
     rintro ⟨hl1,hb1⟩
     first
      | (rw[aU d z hl1,hbl]at hb1;cases hb1)
      | exact hlz hl1
    obtain⟨z0,z1,z2,z3,z4,z5⟩:=eq hr;have y:=an hr
    by_cases hjl:j<z
    ·have HF:Hid (aH d k=(⟨d.extract j z,0,false,j⟩,z)):=Af d k j z HJ.out hs.out HZ hjl
     have hdc:decide ((z:Int)<=(j:Int))=false:=by simp;omega
     clear hs HZ;go_wp2_with fail
     go_quiet ((go_at_call 137;exact Calls.quiet_of_same (fV _ _)))
     go_wp2_with fail
     go_quiet (fail)
     go_wp2_with fail
     go_region
     all_goals go_wp2
     exact bodyPost_ret (v:=dq n d ⟨d.extract j z,0,false,j⟩) (by simp[results,Tryz.results119,go_sem,dq,z0,z1,z2,z3,z4,z5]) rfl
      (by rw[HF.out];exact⟨rfl,d9 (by exact h1) (by omega) _ _ _ _ _ _,eH (hkp.drewN _) (Nat.le_refl _) _ _ _ _ _ _⟩)
    ·have HF:Hid (aH d k=(⟨⟨#[]⟩,0,true,j⟩,z)):=CS d k j z HJ.out hs.out HZ (by omega)
     clear hs HZ;go_wp2_with fail
     go_quiet ((go_at_call 137;exact Calls.quiet_of_same (fV _ _)))
     go_wp2_with fail
     go_quiet (fail)
     go_wp2
     exact bodyPost_ret (v:=dq n d ⟨⟨#[]⟩,0,true,j⟩) (by simp[results,Tryz.results119,go_sem,dq,z0,z1,z2,z3,z4,z5]) rfl
      (by rw[HF.out];exact⟨rfl,d9 (by exact h1) (by omega) _ _ _ _ _ _,eH (hkp.drewN _) (Nat.le_refl _) _ _ _ _ _ _⟩)
end Go.Proofs.YtlbhbocbakijbaaGreat
