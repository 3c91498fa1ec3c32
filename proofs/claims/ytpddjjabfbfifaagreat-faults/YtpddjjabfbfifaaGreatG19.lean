import Derived.Deep.RegionHeld3
import Derived.Laws.OwnMore
import Derived.Test.YtpddjjabfbfifaaGreatG02
import Derived.Test.YtpddjjabfbfifaaGreatG04
namespace Go.Proofs.YtpddjjabfbfifaaGreat
open Go.RowKit
set_option maxHeartbeats 40000000
theorem o8(n:Int)(w:World) :
  Calls Tryz.prog 164 #[.int .u8 n] w fun e w'=>e=.returned (.bool (cv n))/\w'=w:=by
 go_enter Tryz.func164,Tryz.ntmps164;go_wp2
 all_goals go_ret
 all_goals (refine⟨?_,rfl⟩;first | (simp[cv, *];done) | (simp[cv, *,Bool.or_assoc];rw[Bool.or_comm (n==13)]))
theorem jU(n:Int)(w:World) :
  Calls Tryz.prog 78 #[.int .u8 n] w fun e w'=>e=.returned (.bool (eG n))/\w'=w:=by
 go_enter Tryz.func78,Tryz.ntmps78;go_wp2
 all_goals go_ret
 all_goals (refine⟨?_,rfl⟩;first | (simp[eG, *];done) | (simp[eG];omega) | (rename_i h;simp only[eG];rw[show decide (33<=n)=true by simp;omega];simp;omega))
theorem eL(s u:ByteArray)(w:World)(hs:s.size<=4294967296)(hu:u.size<=4294967296) :
  Calls Tryz.prog 120 #[.string s,.string u] w fun e w'=>e=.returned (.bool (ge s u))/\w'=w:=by
 go_enter Tryz.func120,Tryz.ntmps120;go_wp2
 go_loopg [5] (s.size+1) (fun g i wr=>∃k:Nat,k<=s.size+1/\g=s.size+1-k/\i=.int .i64 k/\Hid (∀i,i<k->i+u.size<=s.size->pD s u i=false)/\wr=w)
 case atStart=>exact⟨0,by omega,by omega,rfl,fun i h=>by omega,rfl⟩
 case round =>
  obtain⟨k,hk,hg,rfl,hall,rfl⟩:=hrel
  by_cases hlt:k+u.size<=s.size
  ·have hi1:(k:Int)<=(k:Int)+(u.size:Int):=by omega
   have hi2:(k:Int)+(u.size:Int)<=(s.size:Int):=by omega
   have htn:((k:Int)+(u.size:Int)).toNat=k+u.size:=by omega
   cases hb:((s.extract k (k+u.size)).toList==u.toList)
   ·go_wp2
    go_roundg (s.size+1-(k+1))
    case measure=>omega
    case rel =>
     refine⟨k+1,by omega,rfl,by go_num,?_,rfl⟩;intro i hi h2
     by_cases e:i=k
     ·subst e;exact hb
     ·exact hall.out i (by omega) h2
   ·have HY:Hid (ge s u=true):=lD k (by omega) (by simp[hlt,pD,hb])
    go_wp2;go_ret;exact⟨aB HY.out.symm,rfl⟩
  ·have HY:Hid (ge s u=false):=sV (fun i hi=>by
    by_cases h2:i+u.size<=s.size
    ·simp[hall.out i (by omega) h2]
    ·simp[h2])
   go_wp2;go_ret;exact⟨aB HY.out.symm,rfl⟩
structure so(w wr:World)(nm d:ByteArray)(j:Nat):Prop where
 f:wr.heap[w.heap.size]?=some (.cells #[.string nm,.string d] 68 (0,0))
 r:wr.heap[w.heap.size+1]?=some (.cells #[.string ⟨#[]⟩,.int .i64 0,.int .i64 0] 36 (0,0))
 p:wr.heap[w.heap.size+2]?=some (.cells #[.string nm,.int .i64 (aL d j),.int .i64 (aW d j)] 36 (0,0))
 kept:ab [] w wr
theorem so.start(w:World)(nm d:ByteArray):so w (((w.alloc (.cells #[.string nm,.string d] 68)).alloc (.cells #[.string ⟨#[]⟩,.int .i64 0,.int .i64 0] 36)).alloc (.cells #[.string nm,.int .i64 1,.int .i64 1] 36)) nm d 0:=by
 have k1:=(ab.refl [] w).alloc (.cells #[.string nm,.string d] 68);have k2:=(ab.refl [] (w.alloc (.cells #[.string nm,.string d] 68))).alloc (.cells #[.string ⟨#[]⟩,.int .i64 0,.int .i64 0] 36);have k3:=(ab.refl [] ((w.alloc (.cells #[.string nm,.string d] 68)).alloc (.cells #[.string ⟨#[]⟩,.int .i64 0,.int .i64 0] 36))).alloc (.cells #[.string nm,.int .i64 1,.int .i64 1] 36);have h1:(w.alloc (.cells #[.string nm,.string d] 68)).heap[w.heap.size]?=some (.cells #[.string nm,.string d] 68 (0,0)):=heap_alloc_new _ _;have h2:=heap_alloc_new (w.alloc (.cells #[.string nm,.string d] 68)) (.cells #[.string ⟨#[]⟩,.int .i64 0,.int .i64 0] 36);have h3:=heap_alloc_new ((w.alloc (.cells #[.string nm,.string d] 68)).alloc (.cells #[.string ⟨#[]⟩,.int .i64 0,.int .i64 0] 36)) (.cells #[.string nm,.int .i64 1,.int .i64 1] 36);refine⟨k3.get (k2.get h1 (by simp)) (by simp),k3.get (by simpa using h2) (by simp),by simpa [aL,aW] using h3,(k1.trans k2).trans k3⟩
theorem so.other{w wr:World}{nm d:ByteArray}{j:Nat}(h:so w wr nm d j)(hb:(aF d j==10)=false):so w (wr.setCell ⟨w.heap.size+1+1,2,none⟩ (.int .i64 (aW d j+1))) nm d (j+1):=by
 have k:ab [w.heap.size+1+1] wr (wr.setCell ⟨w.heap.size+1+1,2,none⟩ (.int .i64 (aW d j+1))):=(ab.refl _ _).setCell (Or.inl (by simp)) _;refine⟨k.get h.f (by simp;omega),k.get h.r (by simp),?_,h.kept.setCell (Or.inr (by show _<=w.heap.size+1+1;omega)) _⟩;rw[ah h.p];simp[aL,aW,hb]
theorem so.lf{w wr:World}{nm d:ByteArray}{j:Nat}(h:so w wr nm d j)(hb:(aF d j==10)=true):so w (((wr.setCell ⟨w.heap.size+1+1,2,none⟩ (.int .i64 (aW d j+1))).setCell ⟨w.heap.size+1+1,1,none⟩ (.int .i64 (aL d j+1))).setCell ⟨w.heap.size+1+1,2,none⟩ (.int .i64 1)) nm d (j+1):=by
 have k:ab [w.heap.size+1+1] wr (((wr.setCell ⟨w.heap.size+1+1,2,none⟩ (.int .i64 (aW d j+1))).setCell ⟨w.heap.size+1+1,1,none⟩ (.int .i64 (aL d j+1))).setCell ⟨w.heap.size+1+1,2,none⟩ (.int .i64 1)):=(((ab.refl _ _).setCell (Or.inl (by simp)) _).setCell (Or.inl (by simp)) _).setCell (Or.inl (by simp)) _;refine⟨k.get h.f (by simp;omega),k.get h.r (by simp),?_,((h.kept.setCell (Or.inr (by show _<=w.heap.size+1+1;omega)) _).setCell (Or.inr (by show _<=w.heap.size+1+1;omega)) _).setCell (Or.inr (by show _<=w.heap.size+1+1;omega)) _⟩;rw[ah (ah (ah h.p 2 _) 1 _) 2 _];simp[aL,aW,hb]
theorem pr(nm d:ByteArray)(k:Nat)(w:World)(hk:k<=d.size)(hd:d.size<=1073741824) :
  Calls Tryz.prog 165 #[.agg #[.string nm,.string d],.int .i64 k] w fun e w'=>e=.returned (.agg #[.string nm,.int .i64 (aL d k),.int .i64 (aW d k)])/\ab [] w w':=by
 go_enter Tryz.func165,Tryz.ntmps165;go_wp2
 go_loopg [6] k (fun g i wr=>∃j:Nat,j<=k/\g=k-j/\i=.int .i64 j/\Hid (so w wr nm d j))
 case atStart=>exact⟨0,by omega,rfl,rfl,so.start w nm d⟩
 case round =>
  obtain⟨j,hj,hg,rfl,HP⟩:=hrel;have B0:=HP.out.f;have B1:=HP.out.r;have B2:=HP.out.p;have z2:=ae B2;have c0:wr.cell? ⟨w.heap.size,1,none⟩=some (.string d):=by rw[aa B0];rfl
  have e0:wr.cell? ⟨w.heap.size+2,0,none⟩=some (.string nm):=by rw[aa B2];rfl
  have e1:wr.cell? ⟨w.heap.size+2,1,none⟩=some (.int .i64 (aL d j)):=by rw[aa B2];rfl
  have e2:wr.cell? ⟨w.heap.size+2,2,none⟩=some (.int .i64 (aW d j)):=by rw[aa B2];rfl
  have f1:=ak B2 1;have f2:=ak B2 2;have g0:=ak B1 0;have g1:=ak B1 1;have g2:=ak B1 2;have r0:wr.cell? ⟨w.heap.size+1,0,none⟩=some (.string ⟨#[]⟩):=by rw[aa B1];rfl
  have r1:wr.cell? ⟨w.heap.size+1,1,none⟩=some (.int .i64 0):=by rw[aa B1];rfl
  have r2:wr.cell? ⟨w.heap.size+1,2,none⟩=some (.int .i64 0):=by rw[aa B1];rfl
  have bl:=xm d j;have bc:=wS d j
  by_cases hlt:j<k
  ·have hjd:j<d.size:=by omega
   cases hb:((d[j].toNat:Int)==10)
   ·have HN:Hid (so w _ nm d (j+1)):=HP.out.other (by rw[bI d j hjd];exact hb)
    go_wp2
    go_roundg (k-(j+1))
    case measure=>omega
    case rel=>exact⟨j+1,by omega,rfl,by go_num,HN.out⟩
   ·have HN:Hid (so w _ nm d (j+1)):=HP.out.lf (by rw[bI d j hjd];exact hb)
    go_wp2
    go_roundg (k-(j+1))
    case measure=>omega
    case rel=>exact⟨j+1,by omega,rfl,by go_num,HN.out⟩
  ·have e:j=k:=by omega
   subst e;have HK:=(show Hid _ from HP.out.kept);go_wp2;have b0:=ah B1 0 (.string nm);have b1:=ah b0 1 (.int .i64 (aL d j));have b2:=ah b1 2 (.int .i64 (aW d j));have x0:(wr.setCell ⟨w.heap.size+1,0,none⟩ (.string nm)).cell? ⟨w.heap.size+1,0,none⟩=some (.string nm):=by rw[aa b0];rfl
   have x1:((wr.setCell ⟨w.heap.size+1,0,none⟩ (.string nm)).setCell ⟨w.heap.size+1,1,none⟩ (.int .i64 (aL d j))).cell? ⟨w.heap.size+1,1,none⟩=some (.int .i64 (aL d j)):=by rw[aa b1];rfl
   have x2:(((wr.setCell ⟨w.heap.size+1,0,none⟩ (.string nm)).setCell ⟨w.heap.size+1,1,none⟩ (.int .i64 (aL d j))).setCell ⟨w.heap.size+1,2,none⟩ (.int .i64 (aW d j))).cell? ⟨w.heap.size+1,2,none⟩=some (.int .i64 (aW d j)):=by rw[aa b2];rfl
   exact bodyPost_ret (v:=.agg #[.string nm,.int .i64 (aL d j),.int .i64 (aW d j)]) (by simp[results,Tryz.results165,go_sem,x0,x1,x2]) rfl ⟨rfl,((HK.out.setCell (Or.inr (by simp)) _).setCell (Or.inr (by simp)) _).setCell (Or.inr (by simp)) _⟩
structure bh(w w':World)(h h':Hd):Prop where
 kept:ab h.blk.toList w w'
 blk:h'.blk=h.blk∨∃g,h'.blk=some g/\w.heap.size<=g
theorem aK{h:Hd}{k:Nat}(hk:k∈h.blk.toList):h.blk=some k:=by
 cases e:h.blk with
 | none=>rw[e]at hk;simp at hk
 | some y=>rw[e]at hk;simp at hk;rw[hk]
theorem bh.still{w w':World}{h:Hd}(k:ab [] w w'):bh w w' h h:=⟨k.mono (by simp),Or.inl rfl⟩
theorem bh.trans{w w1 w2:World}{h h1 h2:Hd}(a:bh w w1 h h1)(b:bh w1 w2 h1 h2):bh w w2 h h2:=by
 refine⟨⟨b.kept.os.trans a.kept.os,b.kept.tape.trans a.kept.tape,b.kept.output.trans a.kept.output,Nat.le_trans a.kept.size b.kept.size,fun k hk hn=>?_⟩,?_⟩
 ·rw[b.kept.block k (Nat.lt_of_lt_of_le hk a.kept.size) (fun hq=>?_),a.kept.block k hk hn]
  have e:=aK hq
  rcases a.blk with e2 | ⟨g,e2,hg⟩
  ·exact hn (by rw[<-e2,e];simp)
  ·rw[e2]at e;cases e;omega
 ·rcases b.blk with e | ⟨g,e,hg⟩
  ·rcases a.blk with e2 | ⟨g,e2,hg⟩
   ·exact Or.inl (e.trans e2)
   ·exact Or.inr ⟨g,e.trans e2,hg⟩
  ·exact Or.inr ⟨g,e,Nat.le_trans a.kept.size hg⟩
theorem bh.made{w w':World}{h:Hd}{g c:Nat}(hg:w.grownBy w' h.blk)(hf:h.blk=some g∨w.heap.size<=g):bh w w' h ⟨some ⟨g,0,none⟩,c⟩ :=
 ⟨⟨hg.os,hg.tape,hg.output,hg.size,fun k hk hn=>hg.block k hk (fun e=>hn (by rw[<-e];simp))⟩,by
  rcases hf with e | e
  ·exact Or.inl e.symm
  ·exact Or.inr ⟨g,rfl,e⟩⟩
theorem aA.still{w w':World}{h:Hd}{r:dK}(o:aA w h r)(k:ab [] w w'):aA w' h r:=o.moved (fun q hq=>k.block q (o.lt hq) (by simp))
theorem AL:(Tryz.prog.info? 138).map (fun i=>(i.zero,i.size,i.bytes))=some (some (.agg #[.string ⟨#[]⟩,.int .i64 0,.string ⟨#[]⟩,.int .i64 0,.int .i64 0]),5,56):=by kernel_rfl
theorem Il(w:World)(t:Tk):∀j u,(xR t)[j]?=some u->(w.alloc (.cells (xR t).toArray 138)).cell? ((⟨w.heap.size,0,none⟩:Addr).add j)=some u:=by
 intro j u hj;rw[bK];have hk:(w.alloc (.cells (xR t).toArray 138)).heap[w.heap.size]?=some (.cells (xR t).toArray 138 (0,0)):=heap_alloc_new _ _;rw[aa hk];simpa using hj
theorem Im(t:Tk):∀u∈xR t,u.oneCell'=true:=by
 intro u hu;simp only[xR,List.mem_cons,List.not_mem_nil,or_false]at hu
 rcases hu with rfl | rfl | rfl | rfl | rfl <;> rfl
set_option maxRecDepth 100000 in
theorem wB(nm d:ByteArray)(a z:Nat)(L:List Tk)(h:Hd)(w:World)(haz:a<=z)(hz:z<=d.size)(hd:d.size<=1073741824)(hL:L.length<=100000)(hO:aA w h (f9 L)) :
  Calls Tryz.prog 166 #[.agg #[.string nm,.string d],.int .i64 a,.int .i64 z,.slice h.ao L.length h.cap] w fun e w'=>∃h',e=.returned (.slice h'.ao (ia nm d a z L).length h'.cap)/\aA w' h' (f9 (ia nm d a z L))/\bh w w' h h':=by
 have k0:ab [] w (w.alloc (.cells #[.string nm,.string d] 68)):=(ab.refl [] _).alloc _;have B0:(w.alloc (.cells #[.string nm,.string d] 68)).heap[w.heap.size]?=some (.cells #[.string nm,.string d] 68 (0,0)):=heap_alloc_new _ _
 by_cases e:a=z
 ·subst e
  have HW:Hid (ia nm d a a L=L):=by show _=_;unfold ia;rw[if_pos rfl]
  have HO:=(show Hid _ from hO.still k0);rw[HW.out];go_enter Tryz.func166,Tryz.ntmps166;go_wp2;go_ret;exact⟨h,rfl,HO.out,bh.still k0⟩
 ·have HW:Hid (ia nm d a z L=L++[kL nm d (d.extract a z) 0 a]):=by show _=_;unfold ia;rw[if_neg e]
  have hei:¬((a:Int)=(z:Int)):=by omega
  obtain⟨i0,hi,hz0,hz1,hz2⟩:=info_parts AL;have hb1:(a:Int)<=(z:Int):=by omega
  have hb2:(z:Int)<=(d.size:Int):=by omega
  go_enter Tryz.func166,Tryz.ntmps166
  go_upto_region 4 with (go_at_call 165;refine(pr nm d a _ (by omega) hd).mono ?_;rintro e w1 ⟨rfl,k1⟩)
  obtain⟨W,HWW⟩:∃W,Hid (w1.alloc (.cells #[.string nm,.int .i64 (aL d a),.int .i64 (aW d a)] 36)=W):=⟨_,rfl⟩
  have kW:ab [] w1 W:=by rw[<-HWW.out];exact(ab.refl [] _).alloc _
  have BP:W.heap[w1.heap.size]?=some (.cells #[.string nm,.int .i64 (aL d a),.int .i64 (aW d a)] 36 (0,0)):=by rw[<-HWW.out];exact heap_alloc_new _ _
  have K:=(k0.trans k1).trans kW;have BF:=kW.get (k1.get B0 (by simp)) (by simp);have c1:W.cell? ⟨w.heap.size,1,none⟩=some (.string d):=by rw[aa BF];rfl
  have p0:W.cell? ⟨w1.heap.size,0,none⟩=some (.string nm):=by rw[aa BP];rfl
  have p1:W.cell? ⟨w1.heap.size,1,none⟩=some (.int .i64 (aL d a)):=by rw[aa BP];rfl
  have p2:W.cell? ⟨w1.heap.size,2,none⟩=some (.int .i64 (aW d a)):=by rw[aa BP];rfl
  have y0:=ae BF;have y1:=ae BP;rw[HWW.out];have HK:=(show Hid _ from K);have hD:Hid (aA (W.alloc (.cells #[.string (d.extract a z),.int .i64 0,.string nm,.int .i64 (aL d a),.int .i64 (aW d a)] 138)).drew h (f9 L)):=(hO.still K).still ((ab.refl [] W).alloc _).drew;have s2:Hid (∀j u,([.string (d.extract a z),.int .i64 0,.string nm,.int .i64 (aL d a),.int .i64 (aW d a)]:List Value)[j]?=some u->(W.alloc (.cells #[.string (d.extract a z),.int .i64 0,.string nm,.int .i64 (aL d a),.int .i64 (aW d a)] 138)).drew.cell? ((⟨W.heap.size,0,none⟩:Addr).add j)=some u):=Il W (kL nm d (d.extract a z) 0 a);have s3:Hid (∀u∈([.string (d.extract a z),.int .i64 0,.string nm,.int .i64 (aL d a),.int .i64 (aW d a)]:List Value),u.oneCell'=true):=Im (kL nm d (d.extract a z) 0 a);have s4:Hid ((f9 L).n+1<=maxLen):=by show _<=_;simp only[f9];unfold maxLen;omega
  have s5:Hid (((f9 L).n+1)*56<=140737488355328):=by show _<=_;simp only[f9];omega
  clear kW BP K BF B0 k0 k1 HWW hO
  go_region_law (refine ce rfl (.tmp 17) (.tmp 25) 101 rfl i0 (.agg #[.string ⟨#[]⟩,.int .i64 0,.string ⟨#[]⟩,.int .i64 0,.int .i64 0]) 56 h (f9 L) Tryz.underlying101 hi hz0 hz1 hz2 rfl (show 0<5 by omega) (by simp[Act.eval] <;> rfl) hD.out ⟨W.heap.size,0,none⟩ 1 1 [.string (d.extract a z),.int .i64 0,.string nm,.int .i64 (aL d a),.int .i64 (aW d a)] (by simp[Act.eval]) rfl s2.out s3.out Nat.one_pos s4.out s5.out ?_;intro g5 cap5 w5 hw5 hgr5 hf5)
  all_goals
   have hw6:aA w5 ⟨some ⟨g5,0,none⟩,cap5⟩ (f9 (L++[kL nm d (d.extract a z) 0 a])):=by rw[<-v9];exact hw5
   have HG:Hid (bh w w5 h ⟨some ⟨g5,0,none⟩,cap5⟩):=(bh.still (HK.out.trans ((ab.refl [] W).alloc _).drew)).trans (bh.made hgr5 (by simpa using hf5));have HO:=(show Hid _ from hw6);clear hw5 hgr5 hf5 hw6;go_wp2;go_ret;exact⟨_,by rw[HW.out];simp[f9],by rw[HW.out];exact HO.out,HG.out⟩
theorem bQ(w:World){ops:Array Oper}{rest:List Oper}{o:Oper}{a:Act}{Q:Exit->Act->World->Prop}
  (hg:o.guard=none) (s x:Operand) (hop:o.op=Op.call { callee:=Callee.builtin Builtin.append,args:=#[s,x],argTypes:=#[101,101] })
  (h:Hd) (L:List Tk) (t:Tk) (hs:a.eval s=.slice h.ao L.length h.cap) (hown:aA w h (f9 L)) (hL:L.length<=1000000) (hx:a.eval x=.slice (some ⟨w.heap.size,0,none⟩) 1 1)
  (hK:∀h' w',aA w' h' (f9 (L++[t]))->bh w w' h h'->wpList Tryz.prog ops Q rest (a.put o.dst (.slice h'.ao (L.length+1) h'.cap)) w') :
  wpList Tryz.prog ops Q (o :: rest) a (w.alloc (.cells (xR t).toArray 138)):=by
 obtain⟨i0,hi,hz0,hz1,hz2⟩:=info_parts AL;have k1:ab [] w (w.alloc (.cells (xR t).toArray 138)):=(ab.refl [] _).alloc _;refine aM _ hg s x 101 hop i0 (.agg #[.string ⟨#[]⟩,.int .i64 0,.string ⟨#[]⟩,.int .i64 0,.int .i64 0]) 56 h (f9 L) Tryz.underlying101 hi hz0 hz1 hz2 rfl (show 0<5 by omega) hs (hown.still k1) ⟨w.heap.size,0,none⟩ 1 1 (xR t) hx rfl (Il w t) (Im t) Nat.one_pos (by simp only[f9];unfold maxLen;omega) (by simp only[f9];omega) ?_;intro g5 cap5 w5 hw5 hgr5 hf5;rw[v9]at hw5;exact hK ⟨some ⟨g5,0,none⟩,cap5⟩ w5 hw5 ((bh.still k1).trans (bh.made hgr5 hf5))
theorem pJ{P:Program}(w:World)(t ty:TypeId)(i:TypeInfo)(z:Value)(bytes:Nat)(h:Hd)(r:dK)(h1:P.underlying t=some (.slice r.e))(h2:P.info? r.e=some i)(h3:i.zero=some z)(h4:i.size=r.size)(h5:i.bytes=bytes)(h6:z.cells.size=r.size)(h7:0<r.size)
  (hown:aA w h r) (ao:Option Addr) (m c:Nat) (news:List Value) (hn:news.length=m*r.size) (hnone:ao=none->m=0/\c=0) (hc:∀ad,ao=some ad->∀j u,news[j]?=some u->w.cell? (ad.add j)=some u) (h1c:∀u∈news,u.oneCell'=true)
  (b1:r.n+m<=maxLen) (b2:(r.n+m)*bytes<=140737488355328) :
  ∃hd' w',(Builtin.append_ #[t,t] ty #[.slice h.ao r.n h.cap,.slice ao m c]).run P w=.ok (.slice hd'.ao (r.n+m) hd'.cap) w' /\
   aA w' hd' ⟨r.e,r.size,r.n+m,r.xs++news⟩/\bh w w' h hd':=by
 cases ao with
 | none =>
  obtain⟨rfl,rfl⟩:=hnone rfl;have hnn:news=[]:=List.eq_nil_of_length_eq_zero (by simpa using hn);subst hnn;have hr:=run_append_owned_none (P:=P) w 0 t ty r.e i r.size h1 h2 (.slice h.ao r.n h.cap) r.n r.xs hown;exact⟨h,w,hr,by rw[List.append_nil];exact hown,bh.still (ab.refl _ _)⟩
 | some ad =>
  have hc:=hc ad rfl
  by_cases hm:0<m
  ·obtain⟨g,cap',w',q1,q2,q3,q4⟩:=nT w t ty i z bytes h r h1 h2 h3 h4 h5 h6 h7 hown ad m c news hn hc h1c hm b1 b2
   exact⟨⟨some ⟨g,0,none⟩,cap'⟩,w',q1,q2,bh.made q3 q4⟩
  ·have e:m=0:=by omega
   subst e;have hnn:news=[]:=List.eq_nil_of_length_eq_zero (by simpa using hn);subst hnn
   rcases hown.ways with ⟨e1,e2,e3⟩ | ⟨g,cur,e1,e2,e3,e4,e5,e6⟩
   ·refine⟨h,w,?_,?_,bh.still (ab.refl _ _)⟩
    ·rw[e1,e2]
     simp[Builtin.append_,run_underlying h1,sizeOf,typeInfo,h2,Builtin.lenOf,Builtin.firstCells,loadCells,loadCellsFrom]
    ·rw[List.append_nil,Nat.add_zero];exact hown
   ·obtain⟨w',hrun,hw,hgr⟩:=run_append_fits (P:=P) w 0 t ty r.e i r.size h1 h2 h4 g r.n h.cap r.xs (by have:=hown;unfold aA at this;rw[e1]at this;exact this) ad 0 c [] hn hc h1c (by omega)
    have hbk:h.blk=some g:=by unfold Hd.blk;rw[e1];rfl
    exact⟨⟨some ⟨g,0,none⟩,h.cap⟩,w',by rw[e1,hrun],hw,bh.made (by rw[hbk];exact hgr) (Or.inl hbk)⟩
theorem eO{P:Program}(w:World){ops:Array Oper}{rest:List Oper}{o:Oper}{a:Act}{Q:Exit->Act->World->Prop}
  (hg:o.guard=none) (s x:Operand) (t:TypeId) (hop:o.op=Op.call { callee:=Callee.builtin Builtin.append,args:=#[s,x],argTypes:=#[t,t] })
  (i:TypeInfo) (z:Value) (bytes:Nat) (h:Hd) (r:dK) (h1:P.underlying t=some (.slice r.e)) (h2:P.info? r.e=some i) (h3:i.zero=some z) (h4:i.size=r.size) (h5:i.bytes=bytes) (h6:z.cells.size=r.size) (h7:0<r.size)
  (hs:a.eval s=.slice h.ao r.n h.cap) (hown:aA w h r) (ao:Option Addr) (m c:Nat) (news:List Value) (hx:a.eval x=.slice ao m c) (hn:news.length=m*r.size) (hnone:ao=none->m=0/\c=0) (hc:∀ad,ao=some ad->∀j u,news[j]?=some u->w.cell? (ad.add j)=some u) (h1c:∀u∈news,u.oneCell'=true)
  (b1:r.n+m<=1000000000) (hb:bytes<=1000)
  (hK:∀h' w',aA w' h' ⟨r.e,r.size,r.n+m,r.xs++news⟩->bh w w' h h'->wpList P ops Q rest (a.put o.dst (.slice h'.ao (r.n+m) h'.cap)) w') :
  wpList P ops Q (o :: rest) a w:=by
 obtain⟨hd',w',hrun,r1,r2⟩:=pJ (P:=P) w t o.type i z bytes h r h1 h2 h3 h4 h5 h6 h7 hown ao m c news hn hnone hc h1c (by unfold maxLen;omega) (Nat.le_trans (Nat.mul_le_mul b1 hb) (by omega));refine wpList_plain hg fun K hK'=>?_
 unfold Oper.wp;simp[execOp,hop,resolve,invoke,builtin,hs,hx,hrun,Result.andThen];exact hK' _ _ (hK hd' w' r1 r2)
theorem uE{P:Program}{ops:Array Oper}{o:Oper}{a:Act}{w:World}{K:Act->World->Prop}{Q:Exit->Act->World->Prop}{E:Prop}
  (hg:o.guard=none) (s x:Operand) (t:TypeId) (hop:o.op=Op.call { callee:=Callee.builtin Builtin.append,args:=#[s,x],argTypes:=#[t,t] })
  (i:TypeInfo) (z:Value) (bytes:Nat) (h:Hd) (r:dK) (h1:P.underlying t=some (.slice r.e)) (h2:P.info? r.e=some i) (h3:i.zero=some z) (h4:i.size=r.size) (h5:i.bytes=bytes) (h6:z.cells.size=r.size) (h7:0<r.size)
  (hs:a.eval s=.slice h.ao r.n h.cap) (hown:aA w h r) (ao:Option Addr) (m c:Nat) (news:List Value) (hx:a.eval x=.slice ao m c) (hn:news.length=m*r.size) (hnone:ao=none->m=0/\c=0) (hc:∀ad,ao=some ad->∀j u,news[j]?=some u->w.cell? (ad.add j)=some u) (h1c:∀u∈news,u.oneCell'=true)
  (b1:r.n+m<=1000000000) (hb:bytes<=1000)
  (hK:∀ao' cap' w',aA w' ⟨ao',cap'⟩ ⟨r.e,r.size,r.n+m,r.xs++news⟩->bh w w' h ⟨ao',cap'⟩->K (a.put o.dst (.slice ao' (r.n+m) cap')) w') :
  if Region.wanted o (yielded ops a.tmps)=true then Oper.wp P o a w K Q else E:=by
 have hw:Region.wanted o (yielded ops a.tmps)=true:=by simp[Region.wanted,hg]
 rw[if_pos hw];obtain⟨hd',w',hrun,r1,r2⟩:=pJ (P:=P) w t o.type i z bytes h r h1 h2 h3 h4 h5 h6 h7 hown ao m c news hn hnone hc h1c (by unfold maxLen;omega) (Nat.le_trans (Nat.mul_le_mul b1 hb) (by omega));unfold Oper.wp;simp[execOp,hop,resolve,invoke,builtin,hs,hx,hrun,Result.andThen];exact hK hd'.ao hd'.cap w' r1 r2
theorem bD{P:Program}{ops:Array Oper}{o:Oper}{a:Act}(W:World){K:Act->World->Prop}{Q:Exit->Act->World->Prop}{E:Prop}
  (hg:o.guard=none) (s x:Operand) (t:TypeId) (hop:o.op=Op.call { callee:=Callee.builtin Builtin.append,args:=#[s,x],argTypes:=#[t,t] })
  (i:TypeInfo) (z:Value) (bytes:Nat) (h:Hd) (r:dK) (news:List Value) (h1:P.underlying t=some (.slice r.e)) (h2:P.info? r.e=some i) (h3:i.zero=some z) (h4:i.size=r.size) (h5:i.bytes=bytes) (h6:z.cells.size=r.size) (h7:0<r.size)
  (hs:a.eval s=.slice h.ao r.n h.cap) (hown:aA W h r) (hL:r.n<=900000000) (hb:bytes<=1000) (hx:a.eval x=.slice (some ⟨W.heap.size,0,none⟩) 1 1) (hn:news.length=r.size) (h1c:∀u∈news,u.oneCell'=true)
  (hK:∀ao' cap' w',aA w' ⟨ao',cap'⟩ ⟨r.e,r.size,r.n+1,r.xs++news⟩->bh W w' h ⟨ao',cap'⟩->K (a.put o.dst (.slice ao' (r.n+1) cap')) w') :
  if Region.wanted o (yielded ops a.tmps)=true then Oper.wp P o a (W.alloc (.cells news.toArray r.e)).drew K Q else E:=by
 have k1:ab [] W (W.alloc (.cells news.toArray r.e)).drew:=((ab.refl [] _).alloc _).drew;have hk:(W.alloc (.cells news.toArray r.e)).drew.heap[W.heap.size]?=some (.cells news.toArray r.e (0,0)):=heap_alloc_new _ _;refine uE hg s x t hop i z bytes h r h1 h2 h3 h4 h5 h6 h7 hs (hown.still k1) (some ⟨W.heap.size,0,none⟩) 1 1 news hx (by omega) (fun e=>by cases e) ?_ h1c (by omega) hb ?_
 ·intro ad e j u hj
  cases e
  rw[bK,aa hk];simpa using hj
 ·intro ao' cap' w' o' g'
  exact hK ao' cap' w' o' ((bh.still k1).trans g')
structure uY(w wr:World)(nm d:ByteArray)(h:Hd)(L:List Tk):Prop where
 f:wr.heap[w.heap.size]?=some (.cells #[.string nm,.string d] 68 (0,0))
 own:aA wr h (f9 L)
 far:∀k,h.blk=some k->w.heap.size<k
 kept:ab [] w wr
theorem uY.still{w wr wr':World}{nm d:ByteArray}{h:Hd}{L:List Tk}(a:uY w wr nm d h L)(k:ab [] wr wr'):uY w wr' nm d h L :=
 ⟨k.get a.f (by simp),a.own.still k,a.far,a.kept.trans k⟩
theorem uY.grew{w wr wr':World}{nm d:ByteArray}{h h':Hd}{L L':List Tk}(a:uY w wr nm d h L)(g:bh wr wr' h h')(o:aA wr' h' (f9 L')):uY w wr' nm d h' L':=by
 have hz:=ae a.f;refine⟨g.kept.get a.f (fun hq=>by have:=a.far _ (aK hq);omega),o,fun k hk=>?_,⟨g.kept.os.trans a.kept.os,g.kept.tape.trans a.kept.tape,g.kept.output.trans a.kept.output,Nat.le_trans a.kept.size g.kept.size,fun k hk _=>?_⟩⟩
 ·rcases g.blk with e | ⟨q,e,hq⟩
  ·exact a.far k (by rw[<-e];exact hk)
  ·rw[e]at hk;cases hk;omega
 ·rw[g.kept.block k (Nat.lt_of_lt_of_le hk a.kept.size) (fun hq=>by have:=a.far _ (aK hq);omega),a.kept.block k hk (by simp)]
theorem ug{w1 W:World}{f:ByteArray}{l c:Int}(h:Hid (w1.alloc (.cells #[.string f,.int .i64 l,.int .i64 c] 36)=W)):ab [] w1 W/\w1.heap.size<W.heap.size/\W.cell? ⟨w1.heap.size,0,none⟩=some (.string f)/\W.cell? ⟨w1.heap.size,1,none⟩=some (.int .i64 l)/\W.cell? ⟨w1.heap.size,2,none⟩=some (.int .i64 c):=by
 have BP:W.heap[w1.heap.size]?=some (.cells #[.string f,.int .i64 l,.int .i64 c] 36 (0,0)):=by rw[<-h.out];exact heap_alloc_new _ _
 exact⟨by rw[<-h.out];exact(ab.refl [] _).alloc _,ae BP,by rw[aa BP];rfl,by rw[aa BP];rfl,by rw[aa BP];rfl⟩
theorem Ki{d:ByteArray}{k:Nat}(hk:k<d.size)(h:oA (aF d k)=true)(ha:∀j,j<k->oA (aF d j)=false):iG d=some k:=by
 unfold iG;rw[List.find?_range_eq_some];exact⟨h,List.mem_range.2 hk,fun j hj=>by rw[ha j hj];rfl⟩
theorem FL{d:ByteArray}(ha:∀j,j<d.size->oA (aF d j)=false):iG d=none:=by
 unfold iG;rw[List.find?_eq_none];intro j hj;rw[ha j (List.mem_range.1 hj)];simp
set_option maxRecDepth 100000 in
theorem Cg(nm d:ByteArray)(w:World)(hd:d.size<=10000) :
  Calls Tryz.prog 115 #[.agg #[.string nm,.string d]] w fun e w'=>∃h',e=.returned (.slice h'.ao (fS nm d).length h'.cap)/\aA w' h' (f9 (fS nm d))/\ab [] w w'/\∀k,h'.blk=some k->w.heap.size<k:=by
 have S0:Hid (uY w (w.alloc (.cells #[.string nm,.string d] 68)) nm d ⟨none,0⟩ []):=⟨heap_alloc_new _ _,World.ownsRow_nil _ _ _ _,(by intro k hk;cases hk),(ab.refl [] _).alloc _⟩;obtain⟨i0,hi,hz0,hz1,hz2⟩:=info_parts AL;go_enter Tryz.func115,Tryz.ntmps115;go_wp2
 go_loopg [3,4,5] d.size (fun g o f i wr=>∃(k:Nat) (h:Hd),k<=d.size/\g=d.size-k/\o=.slice h.ao (h9 nm d k).length h.cap/\f=.int .i64 (cM d k)/\i=.int .i64 k/\Hid (∀j,j<k->oA (aF d j)=false)/\Hid (uY w wr nm d h (h9 nm d k)))
 case atStart=>exact⟨0,⟨none,0⟩,by omega,rfl,rfl,rfl,rfl,(fun j hj=>by omega),S0⟩
 case round =>
  obtain⟨k,h,hk,hg,rfl,rfl,rfl,HB,HW⟩:=hrel;have c0:wr.cell? ⟨w.heap.size,0,none⟩=some (.string nm):=by rw[aa HW.out.f];rfl
  have c1:wr.cell? ⟨w.heap.size,1,none⟩=some (.string d):=by rw[aa HW.out.f];rfl
  have y0:=ae HW.out.f;have hwl:=uP nm d k;have hfr:=mt d k
  by_cases hlt:k<d.size
  ·have hki:(k:Int)<(d.size:Int):=by omega
   have HBy:=(show Hid _ from bI d k hlt)
   cases hb:cv (d[k].toNat:Int)
   ·cases hp:eG (d[k].toNat:Int)
    ·have HF:Hid (iG d=some k):=Ki hlt (by rw[HBy.out];unfold oA;rw[hb,hp];rfl) HB.out
     go_upto_region 10 with (first | (go_at_call 78;refine(jU _ _).mono ?_;rintro e w1 ⟨rfl,hw1⟩;rw[hw1];clear hw1) | (go_at_call 164;refine(o8 _ _).mono ?_;rintro e w1 ⟨rfl,hw1⟩;rw[hw1];clear hw1) | (go_at_call 165;refine(pr nm d k _ (by omega) (by omega)).mono ?_;rintro e w1 ⟨rfl,k1⟩))
     obtain⟨W,HWW⟩:∃W,Hid (w1.alloc (.cells #[.string nm,.int .i64 (aL d k),.int .i64 (aW d k)] 36)=W):=⟨_,rfl⟩
     obtain⟨kW,y1,p0,p1,p2⟩:=ug HWW;rw[HWW.out];have HS:=(show Hid _ from HW.out.still (k1.trans kW));have hO:=HS.out.own;have HE:Hid (fS nm d=h9 nm d k++[kL nm d ⟨#[]⟩ 1 k]):=by show _=_;unfold fS;rw[HF.out]
     clear kW k1 c0 c1 HWW;go_wp2_with (at_builtin;refine bQ W rfl (.tmp 36) (.tmp 39) rfl h (h9 nm d k) (kL nm d ⟨#[]⟩ 1 k) rfl hO (by omega) rfl ?_;intro h5 w5 hw5 hg5;have HN:=(show Hid _ from HS.out.grew hg5 hw5);clear hw5 hg5);go_ret;exact⟨h5,by rw[HE.out];simp,by rw[HE.out];exact HN.out.own,HN.out.kept,HN.out.far⟩
    ·have HN:Hid (∀j,j<k+1->oA (aF d j)=false):=fun j hj=>by
      by_cases e:j=k
      ·subst e;rw[HBy.out];unfold oA;rw[hp];rfl
      ·exact HB.out j (by omega)
     have HO:Hid (h9 nm d (k+1)=h9 nm d k/\cM d (k+1)=cM d k):=by
      constructor
      ·rw[h9,if_neg (by rw[HBy.out,hb];simp)]
      ·rw[cM,if_neg (by rw[HBy.out,hb];simp)]
     go_wp2_with (first | (go_at_call 78;refine(jU _ _).mono ?_;rintro e w1 ⟨rfl,hw1⟩;rw[hw1];clear hw1) | (go_at_call 164;refine(o8 _ _).mono ?_;rintro e w1 ⟨rfl,hw1⟩;rw[hw1];clear hw1))
     go_roundg (d.size-(k+1))
     case measure=>omega
     case rel=>exact⟨k+1,h,by omega,rfl,by rw[HO.out.1],by rw[HO.out.2],by go_num,HN,by rw[HO.out.1];exact HW⟩
   ·have HN:Hid (∀j,j<k+1->oA (aF d j)=false):=fun j hj=>by
     by_cases e:j=k
     ·subst e;rw[HBy.out];unfold oA;rw[hb];simp
     ·exact HB.out j (by omega)
    have HO:Hid (h9 nm d (k+1)=ia nm d (cM d k) k (h9 nm d k)/\cM d (k+1)=k+1):=by
     constructor
     ·rw[h9,if_pos (by rw[HBy.out,hb])]
     ·rw[cM,if_pos (by rw[HBy.out,hb])]
    have HWD:Hid (∀wx,uY w wx nm d h (h9 nm d k)->Calls Tryz.prog 166 #[.agg #[.string nm,.string d],.int .i64 (cM d k),.int .i64 k,.slice h.ao (h9 nm d k).length h.cap] wx fun e w'=>∃h',e=.returned (.slice h'.ao (ia nm d (cM d k) k (h9 nm d k)).length h'.cap)/\aA w' h' (f9 (ia nm d (cM d k) k (h9 nm d k)))/\bh wx w' h h'):=fun wx hx=>wB nm d _ k _ h wx hfr (by omega) (by omega) (by omega) hx.own
    cases hp:eG (d[k].toNat:Int)
    all_goals
     go_wp2_with (first | (go_at_call 78;refine(jU _ _).mono ?_;rintro e w1 ⟨rfl,hw1⟩;rw[hw1];clear hw1) | (go_at_call 164;refine(o8 _ _).mono ?_;rintro e w1 ⟨rfl,hw1⟩;rw[hw1];clear hw1) | (go_at_call 166;refine(HWD.out _ HW.out).mono ?_;rintro e w2 ⟨h2,rfl,o2,g2⟩;have HN2:=(show Hid _ from HW.out.grew g2 o2);clear g2 o2))
     go_roundg (d.size-(k+1))
     case measure=>omega
     case rel=>exact⟨k+1,h2,by omega,rfl,by rw[HO.out.1],by rw[HO.out.2];go_num,by go_num,HN,by rw[HO.out.1];exact HN2⟩
  ·have e:k=d.size:=by omega
   subst e;have HF:Hid (iG d=none):=FL HB.out;have HE:Hid (fS nm d=ia nm d (cM d d.size) d.size (h9 nm d d.size)++[kL nm d ⟨#[]⟩ 0 d.size]):=by show _=_;unfold fS;rw[HF.out]
   have hwl2:=rB nm d (cM d d.size) d.size (h9 nm d d.size);obtain⟨L2,HL2⟩:∃L2,Hid (ia nm d (cM d d.size) d.size (h9 nm d d.size)=L2):=⟨_,rfl⟩
   have HWD:Hid (∀wx,uY w wx nm d h (h9 nm d d.size)->Calls Tryz.prog 166 #[.agg #[.string nm,.string d],.int .i64 (cM d d.size),.int .i64 d.size,.slice h.ao (h9 nm d d.size).length h.cap] wx fun e w'=>∃h',e=.returned (.slice h'.ao (ia nm d (cM d d.size) d.size (h9 nm d d.size)).length h'.cap)/\aA w' h' (f9 (ia nm d (cM d d.size) d.size (h9 nm d d.size)))/\bh wx w' h h'):=fun wx hx=>wB nm d _ d.size _ h wx hfr (by omega) (by omega) (by omega) hx.own
   rw[HL2.out]at HWD hwl2 HE
   go_upto_region 15 with (go_at_call 166;refine(HWD.out _ HW.out).mono ?_;rintro e w2 ⟨h2,rfl,o2,g2⟩;have HN2:=(show Hid _ from HW.out.grew g2 o2);clear g2 o2)
   clear c0 c1 y0;have c0:w2.cell? ⟨w.heap.size,0,none⟩=some (.string nm):=by rw[aa HN2.out.f];rfl
   have c1:w2.cell? ⟨w.heap.size,1,none⟩=some (.string d):=by rw[aa HN2.out.f];rfl
   have y0:=ae HN2.out.f
   go_upto_region 16 with (go_at_call 165;refine(pr nm d d.size _ (by omega) (by omega)).mono ?_;rintro e w1 ⟨rfl,k1⟩)
   obtain⟨W,HWW⟩:∃W,Hid (w1.alloc (.cells #[.string nm,.int .i64 (aL d d.size),.int .i64 (aW d d.size)] 36)=W):=⟨_,rfl⟩
   obtain⟨kW,y1,p0,p1,p2⟩:=ug HWW;rw[HWW.out];have HS:=(show Hid _ from HN2.out.still (k1.trans kW));have hO:=HS.out.own;clear kW k1 c0 c1 HWW;go_wp2_with (at_builtin;refine bQ W rfl (.tmp 61) (.tmp 64) rfl h2 L2 (kL nm d ⟨#[]⟩ 0 d.size) rfl hO (by omega) rfl ?_;intro h5 w5 hw5 hg5;have HN:=(show Hid _ from HS.out.grew hg5 hw5);clear hw5 hg5);go_ret;exact⟨h5,by rw[HE.out];simp,by rw[HE.out];exact HN.out.own,HN.out.kept,HN.out.far⟩
theorem nW{w:World}{h:Hd}{L:List Tk}(o:aA w h (f9 L)){g:Nat}(hg:h.ao=some ⟨g,0,none⟩)(k:Nat)(t:Tk)(ht:L[k]?=some t) :
  w.cell? ⟨g,k*5,none⟩=some (.string t.s)/\w.cell? ⟨g,k*5+1,none⟩=some (.int .i64 t.rule)/\w.cell? ⟨g,k*5+2,none⟩=some (.string t.file)/\w.cell? ⟨g,k*5+3,none⟩=some (.int .i64 t.line)/\w.cell? ⟨g,k*5+4,none⟩=some (.int .i64 t.col):=by
 have e:∀c,c<5->∀u,(xR t)[c]?=some u->w.cell? ⟨g,k*5+c,none⟩=some u:=fun c hc u hu=>o.cell hg (k*5+c) u (by show(Ld L)[k*5+c]?=some u;rw[KU L k t ht c hc];exact hu)
 exact⟨e 0 (by omega) _ rfl,e 1 (by omega) _ rfl,e 2 (by omega) _ rfl,e 3 (by omega) _ rfl,e 4 (by omega) _ rfl⟩
theorem oe{w:World}{h:Hd}{r:dK}(o:aA w h r)(hn:0<r.n):∃g,h.ao=some ⟨g,0,none⟩/\g<w.heap.size/\r.n<=h.cap:=by
 rcases o.ways with ⟨_,h0,_⟩ | ⟨g,cur,e1,e2,e3,-⟩
 ·omega
 ·exact⟨g,e1,ae e2,e3⟩
structure Iw(w wr:World)(h:Hd)(O:List Tk):Prop where
 own:aA wr h (f9 O)
 far:∀k,h.blk=some k->w.heap.size<=k
 kept:ab [] w wr
theorem Iw.still{w wr wr':World}{h:Hd}{O:List Tk}(a:Iw w wr h O)(k:ab [] wr wr'):Iw w wr' h O:=⟨a.own.still k,a.far,a.kept.trans k⟩
theorem Iw.grew{w wr wr':World}{h h':Hd}{O O':List Tk}(a:Iw w wr h O)(g:bh wr wr' h h')(o:aA wr' h' (f9 O')):Iw w wr' h' O':=by
 refine⟨o,fun k hk=>?_,⟨g.kept.os.trans a.kept.os,g.kept.tape.trans a.kept.tape,g.kept.output.trans a.kept.output,Nat.le_trans a.kept.size g.kept.size,fun k hk _=>?_⟩⟩
 ·rcases g.blk with e | ⟨q,e,hq⟩
  ·exact a.far k (by rw[<-e];exact hk)
  ·rw[e]at hk;cases hk
   exact Nat.le_trans a.kept.size hq
 ·rw[g.kept.block k (Nat.lt_of_lt_of_le hk a.kept.size) (fun hq=>by have:=a.far _ (aK hq);omega),a.kept.block k hk (by simp)]
def jN(w:World)(ao:Option Addr)(cap:Nat)(L:List Tk):Prop:=L.length<=cap/\∀k t,L[k]?=some t->∃g,ao=some ⟨g,0,none⟩/\g<w.heap.size /\
  w.cell? ⟨g,k*5,none⟩=some (.string t.s)/\w.cell? ⟨g,k*5+1,none⟩=some (.int .i64 t.rule)/\w.cell? ⟨g,k*5+2,none⟩=some (.string t.file)/\w.cell? ⟨g,k*5+3,none⟩=some (.int .i64 t.line)/\w.cell? ⟨g,k*5+4,none⟩=some (.int .i64 t.col)
theorem aA.src{w:World}{h:Hd}{L:List Tk}(o:aA w h (f9 L)):jN w h.ao h.cap L:=by
 refine⟨?_,fun k t ht=>?_⟩
 ·rcases o.ways with ⟨e,h0,_⟩ | ⟨g,cur,e1,e2,e3,-⟩
  ·have h0:L.length=0:=h0
   omega
  ·exact e3
 ·have hk:=(List.getElem?_eq_some_iff.1 ht).1
  obtain⟨g,eg,hg,-⟩:=oe o (show 0<L.length by omega);exact⟨g,eg,hg,nW o eg k t ht⟩
theorem jN.still{w w':World}{ao:Option Addr}{cap:Nat}{L:List Tk}(h:jN w ao cap L)(k:ab [] w w'):jN w' ao cap L:=by
 refine⟨h.1,fun j t ht=>?_⟩;obtain⟨g,e,hg,c⟩:=h.2 j t ht;obtain⟨c0,c1,c2,c3,c4⟩:=c;have q:∀o,w'.cell? ⟨g,o,none⟩=w.cell? ⟨g,o,none⟩:=fun o=>World.cell?_of_block (k.block g hg (by simp))
 exact⟨g,e,Nat.lt_of_lt_of_le hg k.size,by rw[q];exact c0,by rw[q];exact c1,by rw[q];exact c2,by rw[q];exact c3,by rw[q];exact c4⟩
set_option maxRecDepth 100000 in
theorem Dh(L:List Tk)(ao:Option Addr)(cap:Nat)(w:World)(hL:L.length<=100000)(hO:jN w ao cap L)(hs:∀t∈L,t.s.size<=1073741824) :
  Calls Tryz.prog 116 #[.slice ao L.length cap] w fun e w'=>∃h',e=.returned (.slice h'.ao (bJ false L).length h'.cap)/\Iw w w' h' (bJ false L):=by
 have S0:Hid (Iw w w ⟨none,0⟩ []):=⟨World.ownsRow_nil _ _ _ _,(by intro k hk;cases hk),ab.refl _ _⟩;have hcap:=hO.1;have HO:=(show Hid _ from hO);clear hO;go_enter Tryz.func116,Tryz.ntmps116;go_wp2
 go_loopg [3,4,5] L.length (fun g o ins i wr=>∃(k:Nat) (h':Hd) (O:List Tk) (b:Bool),k<=L.length/\g=L.length-k/\o=.slice h'.ao O.length h'.cap/\ins=.bool b/\i=.int .i64 k/\O.length<=k/\Hid (O++bJ b (L.drop k)=bJ false L)/\Hid (Iw w wr h' O))
 case atStart=>exact⟨0,⟨none,0⟩,[],false,by omega,rfl,rfl,rfl,rfl,Nat.le_refl _,rfl,S0⟩
 case round =>
  obtain⟨k,h',O,b,hk,hg,rfl,rfl,rfl,hOl,HE,HW⟩:=hrel
  by_cases hlt:k<L.length
  ·obtain⟨gs,rfl,hgs,q0,q1,q2,q3,q4⟩:=(jN.still HO.out HW.out.kept).2 k L[k] (List.getElem?_eq_getElem hlt)
   have HD:=(show Hid _ from List.drop_eq_getElem_cons hlt);have hts:=hs L[k] (List.getElem_mem hlt);have hki:(k:Int)<(L.length:Int):=by omega
   rw[HD.out]at HE;generalize L[k]=t at *;obtain⟨ts,tr,tf,tl,tc⟩:=t;simp only at q0 q1 q2 q3 q4 hts;obtain⟨W,HWW⟩:∃W,Hid (wr.alloc (.cells #[.string ts,.int .i64 tr,.string tf,.int .i64 tl,.int .i64 tc] 138)=W):=⟨_,rfl⟩
   have BW:W.heap[wr.heap.size]?=some (.cells #[.string ts,.int .i64 tr,.string tf,.int .i64 tl,.int .i64 tc] 138 (0,0)):=by rw[<-HWW.out];exact heap_alloc_new _ _
   have p0:W.cell? ⟨wr.heap.size,0,none⟩=some (.string ts):=by rw[aa BW];rfl
   have p1:W.cell? ⟨wr.heap.size,1,none⟩=some (.int .i64 tr):=by rw[aa BW];rfl
   have p2:W.cell? ⟨wr.heap.size,2,none⟩=some (.string tf):=by rw[aa BW];rfl
   have p3:W.cell? ⟨wr.heap.size,3,none⟩=some (.int .i64 tl):=by rw[aa BW];rfl
   have p4:W.cell? ⟨wr.heap.size,4,none⟩=some (.int .i64 tc):=by rw[aa BW];rfl
   have y1:=ae BW;have HWS:Hid (Iw w W h' O):=HW.out.still (by rw[<-HWW.out];exact(ab.refl [] _).alloc _);have hOW:=HWS.out.own
   go_upto_region 7 with fail
   rw[HWW.out];clear q0 q1 q2 q3 q4 HWW BW
   go_upto_region 9 with (go_at_call 120;refine(eL ts _ _ (by omega) (by show 2<=_;omega)).mono ?_;rintro e w1 ⟨rfl,hw1⟩;rw[hw1];clear hw1)
   cases b
   ·cases ho:(ts.toList == [36,40])
    ·have HN:Hid ((O++[⟨ts,tr,tf,tl,tc⟩])++bJ false (L.drop (k+1))=bJ false L):=by
      show _=_
      rw[<-HE.out,bJ,if_neg (by show ¬(ts.toList == [36,40])=true;rw[ho];simp)];simp
     go_wp2_with (at_builtin;refine bQ W rfl (.tmp 41) (.tmp 43) rfl h' O ⟨ts,tr,tf,tl,tc⟩ rfl hOW (by omega) rfl ?_;intro h5 w5 hw5 hg5;have HM:=(show Hid _ from HWS.out.grew hg5 hw5);clear hw5 hg5)
     go_roundg (L.length-(k+1))
     case measure=>omega
     case rel=>exact⟨k+1,h5,O++[⟨ts,tr,tf,tl,tc⟩],false,by omega,rfl,by simp,rfl,by go_num,by simp;omega,HN,HM⟩
    ·have HN:Hid (O++bJ true (L.drop (k+1))=bJ false L):=by
      show _=_
      rw[<-HE.out,bJ,if_pos (by show(ts.toList == [36,40])=true;exact ho)]
     go_wp2
     go_roundg (L.length-(k+1))
     case measure=>omega
     case rel=>exact⟨k+1,h',O,true,by omega,rfl,rfl,rfl,by go_num,by omega,HN,HWS⟩
   ·cases hr:(tr==0)
    ·have HN:Hid ((O++[⟨ts,tr,tf,tl,tc⟩])++bJ true (L.drop (k+1))=bJ false L):=by
      show _=_
      rw[<-HE.out,bJ,if_pos (by exact hr)];simp
     go_wp2_with (at_builtin;refine bQ W rfl (.tmp 41) (.tmp 43) rfl h' O ⟨ts,tr,tf,tl,tc⟩ rfl hOW (by omega) rfl ?_;intro h5 w5 hw5 hg5;have HM:=(show Hid _ from HWS.out.grew hg5 hw5);clear hw5 hg5)
     go_roundg (L.length-(k+1))
     case measure=>omega
     case rel=>exact⟨k+1,h5,O++[⟨ts,tr,tf,tl,tc⟩],true,by omega,rfl,by simp,rfl,by go_num,by simp;omega,HN,HM⟩
    ·have hr0:tr=0:=by simpa using hr
     subst hr0;clear hr
     cases h1:(ts.toList == [36,41])
     ·cases h2:(ts.toList == [])
      ·cases h3:(ge ts ⟨#[36,40]⟩||ge ts ⟨#[36,41]⟩)
       ·have HN:Hid (O++bJ true (L.drop (k+1))=bJ false L):=by
         show _=_
         rw[<-HE.out,bJ,if_neg (by simp),if_neg (by show ¬(ts.toList == [36,41])=true;rw[h1];simp),if_neg (by show ¬(ts.toList == [])=true;rw[h2];simp),if_neg (by rw[h3];simp)]
        simp only[Bool.or_eq_false_iff]at h3;obtain⟨h3,h4⟩:=h3;rw[h3,h4];go_wp2
        go_roundg (L.length-(k+1))
        case measure=>omega
        case rel=>exact⟨k+1,h',O,true,by omega,rfl,rfl,rfl,by go_num,by omega,HN,HWS⟩
       ·have HN:Hid (bJ false L=O++[⟨⟨#[]⟩,2,tf,tl,tc⟩]):=by
         show _=_
         rw[<-HE.out,bJ,if_neg (by simp),if_neg (by show ¬(ts.toList == [36,41])=true;rw[h1];simp),if_neg (by show ¬(ts.toList == [])=true;rw[h2];simp),if_pos (by rw[h3])]
        cases h4:ge ts ⟨#[36,40]⟩
        ·rw[h4,Bool.false_or]at h3
         rw[h3];go_wp2_with (at_builtin;refine bQ W rfl (.tmp 64) (.tmp 68) rfl h' O ⟨⟨#[]⟩,2,tf,tl,tc⟩ rfl hOW (by omega) rfl ?_;intro h5 w5 hw5 hg5;have HM:=(show Hid _ from HWS.out.grew hg5 hw5);clear hw5 hg5);go_ret;exact⟨h5,by rw[HN.out];simp,by rw[HN.out];exact HM.out⟩
        ·clear h3
         go_wp2_with (at_builtin;refine bQ W rfl (.tmp 64) (.tmp 68) rfl h' O ⟨⟨#[]⟩,2,tf,tl,tc⟩ rfl hOW (by omega) rfl ?_;intro h5 w5 hw5 hg5;have HM:=(show Hid _ from HWS.out.grew hg5 hw5);clear hw5 hg5);go_ret;exact⟨h5,by rw[HN.out];simp,by rw[HN.out];exact HM.out⟩
      ·have HN:Hid ((O++[⟨⟨#[]⟩,3,tf,tl,tc⟩])++bJ true (L.drop (k+1))=bJ false L):=by
        show _=_
        rw[<-HE.out,bJ,if_neg (by simp),if_neg (by show ¬(ts.toList == [36,41])=true;rw[h1];simp),if_pos (by exact h2)];simp
       go_wp2_with (at_builtin;refine bQ W rfl (.tmp 53) (.tmp 57) rfl h' O ⟨⟨#[]⟩,3,tf,tl,tc⟩ rfl hOW (by omega) rfl ?_;intro h5 w5 hw5 hg5;have HM:=(show Hid _ from HWS.out.grew hg5 hw5);clear hw5 hg5)
       go_roundg (L.length-(k+1))
       case measure=>omega
       case rel=>exact⟨k+1,h5,O++[⟨⟨#[]⟩,3,tf,tl,tc⟩],true,by omega,rfl,by simp,rfl,by go_num,by simp;omega,HN,HM⟩
     ·have HN:Hid (O++bJ false (L.drop (k+1))=bJ false L):=by
       show _=_
       rw[<-HE.out,bJ,if_neg (by simp),if_pos (by exact h1)]
      go_wp2
      go_roundg (L.length-(k+1))
      case measure=>omega
      case rel=>exact⟨k+1,h',O,false,by omega,rfl,rfl,rfl,by go_num,by omega,HN,HWS⟩
  ·have e:L.drop k=[]:=List.drop_eq_nil_of_le (by omega)
   have HN:Hid (bJ false L=O):=by
    show _=_
    rw[<-HE.out,e]
    cases b <;> simp[bJ]
   go_wp2;go_ret;exact⟨h',by rw[HN.out];rfl,by rw[HN.out];exact HW.out⟩
def bZ(s:ByteArray):Bool:=(s.toList == [36,46])||(s.toList == [36,123])||(s.toList == [36,125])
def aY(n:Int)(s:ByteArray):Int :=
 if(s.toList == [36,125])=true then(if(s.toList == [36,123])=true then n+1 else n)-1 else(if(s.toList == [36,123])=true then n+1 else n)
def iy(L:List Tk):Int:=L.foldl (fun n t=>aY n t.s) 0
def cI(L:List Tk):Bool:=match L.getLast? with
 | none=>true
 | some t=>bZ t.s&&(iy L==0)
def dJ(L:List Tk):Bool:=match L.getLast? with
 | none=>false
 | some t=>!(t.rule==0)
theorem Aw(L:List Tk)(k:Nat)(h:k<L.length):iy (L.take (k+1))=aY (iy (L.take k)) L[k].s:=by
 unfold iy;rw[List.take_succ_eq_append_getElem h,List.foldl_append];rfl
theorem qN(s:ByteArray)(w:World) :
  Calls Tryz.prog 84 #[.string s] w fun e w'=>e=.returned (.bool (bZ s))/\w'=w:=by
 go_enter Tryz.func84,Tryz.ntmps84;go_wp2
 all_goals go_ret
 all_goals (refine⟨?_,rfl⟩;simp[bZ, *])
set_option maxRecDepth 100000 in
theorem Av(L:List Tk)(ao:Option Addr)(cap:Nat)(w:World)(hL:L.length<=100000)(hO:jN w ao cap L) :
  Calls Tryz.prog 167 #[.slice ao L.length cap] w fun e w'=>e=.returned (.int .i64 (iy L))/\w'=w:=by
 have hcap:=hO.1;have HO:=(show Hid _ from hO);clear hO;go_enter Tryz.func167,Tryz.ntmps167;go_wp2
 go_loopg [3,4] L.length (fun g n i wr=>∃(k:Nat) (m:Int),k<=L.length/\g=L.length-k/\n=.int .i64 m/\i=.int .i64 k/\(-(k:Int)<=m/\m<=(k:Int))/\Hid (m=iy (L.take k))/\wr=w)
 case atStart=>exact⟨0,0,by omega,rfl,rfl,rfl,by omega,rfl,rfl⟩
 case round =>
  obtain⟨k,m,hk,hg,rfl,rfl,hm,HM,rfl⟩:=hrel
  by_cases hlt:k<L.length
  ·obtain⟨gs,rfl,hgs,q0,-⟩:=HO.out.2 k L[k] (List.getElem?_eq_getElem hlt)
   have HN:=(show Hid _ from Aw L k hlt);have hki:(k:Int)<(L.length:Int):=by omega
   rw[<-HM.out]at HN;generalize L[k]=t at *;obtain⟨ts,tr,tf,tl,tc⟩:=t;simp only at q0 HN
   cases h1:(ts.toList == [36,123])
   ·cases h2:(ts.toList == [36,125])
    ·have HE:Hid (m=iy (L.take (k+1))):=by show _=_;rw[HN.out,aY,h1,h2];simp
     go_wp2
     go_roundg (L.length-(k+1))
     case measure=>omega
     case rel=>exact⟨k+1,m,by omega,rfl,rfl,by go_num,by omega,HE,rfl⟩
    ·have HE:Hid (m-1=iy (L.take (k+1))):=by show _=_;rw[HN.out,aY,h1,h2];simp
     go_wp2
     go_roundg (L.length-(k+1))
     case measure=>omega
     case rel=>exact⟨k+1,m-1,by omega,rfl,by go_num,by go_num,by omega,HE,rfl⟩
   ·cases h2:(ts.toList == [36,125])
    ·have HE:Hid (m+1=iy (L.take (k+1))):=by show _=_;rw[HN.out,aY,h1,h2];simp
     go_wp2
     go_roundg (L.length-(k+1))
     case measure=>omega
     case rel=>exact⟨k+1,m+1,by omega,rfl,by go_num,by go_num,by omega,HE,rfl⟩
    ·have a1:ts.toList=[36,123]:=by simpa using h1
     rw[a1]at h2;exact absurd h2 (by decide)
  ·have e:k=L.length:=by omega
   subst e;rw[List.take_length]at HM;go_wp2;go_ret;exact⟨am HM.out,rfl⟩
set_option maxRecDepth 100000 in
theorem wP(L:List Tk)(ao:Option Addr)(cap:Nat)(w:World)(hL:L.length<=100000)(hO:jN w ao cap L) :
  Calls Tryz.prog 117 #[.slice ao L.length cap] w fun e w'=>e=.returned (.bool (cI L))/\w'=w:=by
 have hcap:=hO.1;have HDP:=(show Hid _ from Av L ao cap w hL hO);obtain⟨n,HNL⟩:∃n,Hid (L.length=n):=⟨_,rfl⟩
 rw[HNL.out]at hL hcap HDP ⊢
 by_cases hn:n=0
 ·have HB:Hid (cI L=true):=by
   show _=_
   have:L=[]:=List.eq_nil_of_length_eq_zero (by rw[HNL.out,hn]);rw[this];rfl
  subst hn;go_enter Tryz.func117,Tryz.ntmps117;go_wp2;go_ret;exact⟨aB HB.out.symm,rfl⟩
 ·have hlt:n-1<L.length:=by rw[HNL.out];omega
  obtain⟨gs,rfl,hgs,q0,-⟩:=hO.2 (n-1) L[n-1] (List.getElem?_eq_getElem hlt)
  have HB:Hid (cI L=(bZ L[n-1].s&&(iy L==0))):=by
   show _=_
   unfold cI;rw[List.getLast?_eq_getElem?,HNL.out,List.getElem?_eq_getElem hlt]
  generalize L[n-1]=t at *;obtain⟨ts,tr,tf,tl,tc⟩:=t;simp only at q0 HB;have hwr:IntKind.i64.wrap ((n:Int)-1)=(n:Int)-1:=by rw[IntKind.wrap_i64];omega
  have htn:((n:Int)-1).toNat=n-1:=by omega
  have b1:(0:Int)<=(n:Int)-1:=by omega
  have b2:(n:Int)-1<(n:Int):=by omega
  have b3:(1:Int)<=(n:Int):=by omega
  have b4:((n:Int)==0)=false:=by simpa using hn
  obtain⟨D,HD⟩:∃D,Hid (iy L=D):=⟨_,rfl⟩
  rw[HD.out]at HB HDP;go_enter Tryz.func117,Tryz.ntmps117;go_wp2_with (first | (go_at_call 167;refine(Calls.mono HDP.out ?_);rintro e w1 ⟨rfl,hw1⟩;rw[hw1];clear hw1) | (go_at_call 84;refine(qN ts _).mono ?_;rintro e w1 ⟨rfl,hw1⟩;rw[hw1];clear hw1))
  all_goals go_ret
  all_goals (refine⟨aB ?_,rfl⟩;rw[HB.out];simp[*])
end Go.Proofs.YtpddjjabfbfifaaGreat
